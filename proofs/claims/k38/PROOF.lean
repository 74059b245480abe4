import PyProof.Rows.All
import Wide.All
import OpenK.AllK
import Wide.FinOn
import HandS.ForMost
import HandS.Exc
import HandS.TryOnly
import HandS.ExcOwn
import HandS.WordsExc
import HandS.IsInst
import HandS.Wide
import HandS.Flow
import HandS.More
import HandS.Codes
import HandS.Walk
import HandS.TupLe
import HandS.WordsDict
import HandS.Conv
import HandS.TryMany
import HandS.ExcIs
import KE.KBits
import HandS.CallLocal
import HandS.Strs
import HandS.SetFor
import HandS.Set
import HandS.Property
import HandS.Flt
import PySem.Challenge.RW_sillwatch_k38_frames_moved
set_option Elab.async false
set_option linter.all false
set_option maxRecDepth 100000
set_option maxHeartbeats 4000000
namespace My
open PySem L2
def topS (i : Nat) : Stmt := PySem.Challenge.pw_sillwatch_k38_frames_moved.main.body.getD i (.Pass ⟨0, 0, 0, 0⟩)
abbrev s_overlap : Stmt := topS 1
abbrev s_overlap_axis : Stmt := topS 2
abbrev s_inside_of : Stmt := topS 10
abbrev s_frame_of : Stmt := topS 11
abbrev s_can_be_caught : Stmt := topS 12
abbrev s_part_at : Stmt := topS 13
abbrev s_moved_frame : Stmt := topS 14
abbrev s_resized_frame : Stmt := topS 15
abbrev s__button_at : Stmt := topS 16
abbrev s__kept_length : Stmt := topS 17
abbrev s__law_cell : Stmt := topS 19
abbrev s__law_row : Stmt := topS 20
abbrev s__law_areas : Stmt := topS 21
abbrev s__law_caught : Stmt := topS 22
abbrev s__law_moved : Stmt := topS 23
abbrev s__law_length : Stmt := topS 24
abbrev s__law_resized_good : Stmt := topS 25
abbrev s__law_part : Stmt := topS 26
abbrev s_law : Stmt := topS 27
structure Adr where
  foverlap : Addr
  doverlap : FuncData
  foverlap_axis : Addr
  doverlap_axis : FuncData
  finside_of : Addr
  dinside_of : FuncData
  fframe_of : Addr
  dframe_of : FuncData
  fcan_be_caught : Addr
  dcan_be_caught : FuncData
  fpart_at : Addr
  dpart_at : FuncData
  fmoved_frame : Addr
  dmoved_frame : FuncData
  fresized_frame : Addr
  dresized_frame : FuncData
  f_button_at : Addr
  d_button_at : FuncData
  f_kept_length : Addr
  d_kept_length : FuncData
  f_law_cell : Addr
  d_law_cell : FuncData
  f_law_row : Addr
  d_law_row : FuncData
  f_law_areas : Addr
  d_law_areas : FuncData
  f_law_caught : Addr
  d_law_caught : FuncData
  f_law_moved : Addr
  d_law_moved : FuncData
  f_law_length : Addr
  d_law_length : FuncData
  f_law_resized_good : Addr
  d_law_resized_good : FuncData
  f_law_part : Addr
  d_law_part : FuncData
  flaw : Addr
  dlaw : FuncData
  tBORDER : Tok
  tTITLE_BAR : Tok
  tLEAST_SIDE : Tok
  tLONGEST_SIDE : Tok
  tCAUGHT_COLUMNS : Tok
  tGRIP : Tok
structure Txt (K : PySem.W.Frag) (mg : Str → Option Value) (A : Adr) : Prop where
  Foverlap : Fun K "overlap" "overlap" s_overlap A.foverlap A.doverlap
  boverlap : Binds K A.doverlap ["a", "b"] []
  goverlap : mg "overlap" = some (.ref A.foverlap)
  koverlap : PySem.W.keepIn K (.ref A.foverlap) = true
  Foverlap_axis : Fun K "overlap_axis" "overlap_axis" s_overlap_axis A.foverlap_axis A.doverlap_axis
  boverlap_axis : Binds K A.doverlap_axis ["begin", "length", "other_begin", "other_length"] []
  goverlap_axis : mg "overlap_axis" = some (.ref A.foverlap_axis)
  koverlap_axis : PySem.W.keepIn K (.ref A.foverlap_axis) = true
  Finside_of : Fun K "inside_of" "inside_of" s_inside_of A.finside_of A.dinside_of
  binside_of : Binds K A.dinside_of ["frame"] []
  ginside_of : mg "inside_of" = some (.ref A.finside_of)
  kinside_of : PySem.W.keepIn K (.ref A.finside_of) = true
  Fframe_of : Fun K "frame_of" "frame_of" s_frame_of A.fframe_of A.dframe_of
  bframe_of : Binds K A.dframe_of ["inside"] []
  gframe_of : mg "frame_of" = some (.ref A.fframe_of)
  kframe_of : PySem.W.keepIn K (.ref A.fframe_of) = true
  Fcan_be_caught : Fun K "can_be_caught" "can_be_caught" s_can_be_caught A.fcan_be_caught A.dcan_be_caught
  bcan_be_caught : Binds K A.dcan_be_caught ["areas", "frame"] []
  gcan_be_caught : mg "can_be_caught" = some (.ref A.fcan_be_caught)
  kcan_be_caught : PySem.W.keepIn K (.ref A.fcan_be_caught) = true
  Fpart_at : Fun K "part_at" "part_at" s_part_at A.fpart_at A.dpart_at
  bpart_at : Binds K A.dpart_at ["frame", "x", "y"] []
  gpart_at : mg "part_at" = some (.ref A.fpart_at)
  kpart_at : PySem.W.keepIn K (.ref A.fpart_at) = true
  Fmoved_frame : Fun K "moved_frame" "moved_frame" s_moved_frame A.fmoved_frame A.dmoved_frame
  bmoved_frame : Binds K A.dmoved_frame ["areas", "frame", "dx", "dy"] []
  gmoved_frame : mg "moved_frame" = some (.ref A.fmoved_frame)
  kmoved_frame : PySem.W.keepIn K (.ref A.fmoved_frame) = true
  Fresized_frame : Fun K "resized_frame" "resized_frame" s_resized_frame A.fresized_frame A.dresized_frame
  bresized_frame : Binds K A.dresized_frame ["frame", "part", "dx", "dy", "least", "largest"] []
  gresized_frame : mg "resized_frame" = some (.ref A.fresized_frame)
  kresized_frame : PySem.W.keepIn K (.ref A.fresized_frame) = true
  F_button_at : Fun K "_button_at" "_button_at" s__button_at A.f_button_at A.d_button_at
  b_button_at : Binds K A.d_button_at ["from_right"] []
  g_button_at : mg "_button_at" = some (.ref A.f_button_at)
  k_button_at : PySem.W.keepIn K (.ref A.f_button_at) = true
  F_kept_length : Fun K "_kept_length" "_kept_length" s__kept_length A.f_kept_length A.d_kept_length
  b_kept_length : Binds K A.d_kept_length ["length", "least", "largest"] []
  g_kept_length : mg "_kept_length" = some (.ref A.f_kept_length)
  k_kept_length : PySem.W.keepIn K (.ref A.f_kept_length) = true
  F_law_cell : Fun K "_law_cell" "_law_cell" s__law_cell A.f_law_cell A.d_law_cell
  b_law_cell : Binds K A.d_law_cell ["script", "k"] []
  g_law_cell : mg "_law_cell" = some (.ref A.f_law_cell)
  k_law_cell : PySem.W.keepIn K (.ref A.f_law_cell) = true
  F_law_row : Fun K "_law_row" "_law_row" s__law_row A.f_law_row A.d_law_row
  b_law_row : Binds K A.d_law_row ["script", "k"] []
  g_law_row : mg "_law_row" = some (.ref A.f_law_row)
  k_law_row : PySem.W.keepIn K (.ref A.f_law_row) = true
  F_law_areas : Fun K "_law_areas" "_law_areas" s__law_areas A.f_law_areas A.d_law_areas
  b_law_areas : Binds K A.d_law_areas ["row"] []
  g_law_areas : mg "_law_areas" = some (.ref A.f_law_areas)
  k_law_areas : PySem.W.keepIn K (.ref A.f_law_areas) = true
  F_law_caught : Fun K "_law_caught" "_law_caught" s__law_caught A.f_law_caught A.d_law_caught
  b_law_caught : Binds K A.d_law_caught ["areas", "frame"] []
  g_law_caught : mg "_law_caught" = some (.ref A.f_law_caught)
  k_law_caught : PySem.W.keepIn K (.ref A.f_law_caught) = true
  F_law_moved : Fun K "_law_moved" "_law_moved" s__law_moved A.f_law_moved A.d_law_moved
  b_law_moved : Binds K A.d_law_moved ["areas", "frame", "dx", "dy"] []
  g_law_moved : mg "_law_moved" = some (.ref A.f_law_moved)
  k_law_moved : PySem.W.keepIn K (.ref A.f_law_moved) = true
  F_law_length : Fun K "_law_length" "_law_length" s__law_length A.f_law_length A.d_law_length
  b_law_length : Binds K A.d_law_length ["length", "least", "largest"] []
  g_law_length : mg "_law_length" = some (.ref A.f_law_length)
  k_law_length : PySem.W.keepIn K (.ref A.f_law_length) = true
  F_law_resized_good : Fun K "_law_resized_good" "_law_resized_good" s__law_resized_good A.f_law_resized_good A.d_law_resized_good
  b_law_resized_good : Binds K A.d_law_resized_good ["frame", "part", "way", "least", "largest"] []
  g_law_resized_good : mg "_law_resized_good" = some (.ref A.f_law_resized_good)
  k_law_resized_good : PySem.W.keepIn K (.ref A.f_law_resized_good) = true
  F_law_part : Fun K "_law_part" "_law_part" s__law_part A.f_law_part A.d_law_part
  b_law_part : Binds K A.d_law_part ["frame", "x", "y"] []
  g_law_part : mg "_law_part" = some (.ref A.f_law_part)
  k_law_part : PySem.W.keepIn K (.ref A.f_law_part) = true
  Flaw : Fun K "law" "law" s_law A.flaw A.dlaw
  blaw : Binds K A.dlaw ["script"] []
  glaw : mg "law" = some (.ref A.flaw)
  klaw : PySem.W.keepIn K (.ref A.flaw) = true
  int : mg "int" = none
  len : mg "len" = none
  max : mg "max" = none
  min : mg "min" = none
  range : mg "range" = none
  gBORDER : mg "BORDER" = some (.int (2) A.tBORDER)
  gTITLE_BAR : mg "TITLE_BAR" = some (.int (10) A.tTITLE_BAR)
  gLEAST_SIDE : mg "LEAST_SIDE" = some (.int (16) A.tLEAST_SIDE)
  gLONGEST_SIDE : mg "LONGEST_SIDE" = some (.int (4096) A.tLONGEST_SIDE)
  gCAUGHT_COLUMNS : mg "CAUGHT_COLUMNS" = some (.int (16) A.tCAUGHT_COLUMNS)
  gGRIP : mg "GRIP" = some (.int (10) A.tGRIP)
section
variable {P : Program} {w : World} {K : PySem.W.Frag} {mg : Str → Option Value} {base : Heap} {A : Adr}
/-! ### common: tests, errors, small words -/
theorem exm_self {K : PySem.W.Frag} {S : Addr} (h1 : PySem.W.subIn K (.ref S) (.type "BaseException") = some true) (h2 : PySem.W.isClsIn K S = true) (h3 : PySem.W.typeIn K (.ref S) = some (.type "type")) (h4 : PySem.W.subIn K (.ref S) (.ref S) = some true) :
    PySem.W.exmOne K (.ref S) (.ref S) = some true := by
  have g1 : (PySem.W.subIn K (.ref S) (.type "BaseException") == some true) = true := by rw [h1]; rfl
  have g0 : (PySem.W.clsIn K S).isSome = true := h2
  have g2 : ((PySem.W.clsIn K S).isSome && PySem.W.typeIn K (.ref S) == some (.type "type")) = true := by rw [g0, h3]; rfl
  show (if (PySem.W.subIn K (.ref S) (.type "BaseException") == some true) = true then (if ((PySem.W.clsIn K S).isSome && PySem.W.typeIn K (.ref S) == some (.type "type")) = true then PySem.W.subIn K (.ref S) (.ref S) else none) else none) = some true
  rw [if_pos g1, if_pos g2]
  exact h4
theorem exm_cross {K : PySem.W.Frag} {S R : Addr} {b : Bool} (h1 : PySem.W.subIn K (.ref S) (.type "BaseException") = some true) (h2 : PySem.W.isClsIn K S = true) (h3 : PySem.W.typeIn K (.ref S) = some (.type "type")) (h4 : PySem.W.subIn K (.ref R) (.ref S) = some b) :
    PySem.W.exmOne K (.ref R) (.ref S) = some b := by
  have g1 : (PySem.W.subIn K (.ref S) (.type "BaseException") == some true) = true := by rw [h1]; rfl
  have g0 : (PySem.W.clsIn K S).isSome = true := h2
  have g2 : ((PySem.W.clsIn K S).isSome && PySem.W.typeIn K (.ref S) == some (.type "type")) = true := by rw [g0, h3]; rfl
  show (if (PySem.W.subIn K (.ref S) (.type "BaseException") == some true) = true then (if ((PySem.W.clsIn K S).isSome && PySem.W.typeIn K (.ref S) == some (.type "type")) = true then PySem.W.subIn K (.ref R) (.ref S) else none) else none) = some b
  rw [if_pos g1, if_pos g2]
  exact h4
/-- the law's own promise -/
def sp_law (K : PySem.W.Frag) : Sp := fun vs H Q _ => ∃ (a : Addr) (ns : List Int), vs = [.ref a] ∧ SqL K H a (ns.map V.int) ∧ ns.length ≤ 63 ∧ ∀ H', Q (.bl true) H'
theorem iteP {p A B : Prop} [Decidable p] (h1 : p → A) (h2 : ¬ p → B) : if decide p = true then A else B := by
  by_cases h : p
  · rw [decide_eq_true h]; exact iteT (h1 h)
  · rw [decide_eq_false h]; exact iteF (h2 h)
theorem iteN {p A B : Prop} [Decidable p] (h1 : ¬ p → A) (h2 : p → B) : if (!decide p) = true then A else B := by
  by_cases h : p
  · rw [decide_eq_true h]; exact iteF (h2 h)
  · rw [decide_eq_false h]; exact iteT (h1 h)
theorem iteEq {i j : Int} {A B : Prop} (h1 : i = j → A) (h2 : i ≠ j → B) : if decide (V.int i = V.int j) = true then A else B :=
  iteP (fun h => h1 (V.int.inj h)) (fun h => h2 fun e => h (congrArg V.int e))
theorem iteNe {i j : Int} {A B : Prop} (h1 : i ≠ j → A) (h2 : i = j → B) : if (!decide (V.int i = V.int j)) = true then A else B :=
  iteN (fun h => h1 fun e => h (congrArg V.int e)) (fun h => h2 (V.int.inj h))
theorem if_t {b : Bool} {A B : Prop} (e : b = true) (h : A) : if b = true then A else B := by rw [if_pos e]; exact h
theorem if_f {b : Bool} {A B : Prop} (e : b = false) (h : B) : if b = true then A else B := by rw [e]; exact iteF h
theorem if_b {b : Bool} {A B : Prop} (h1 : b = true → A) (h2 : b = false → B) : if b = true then A else B := by
  cases b with
  | true => exact iteT (h1 rfl)
  | false => exact iteF (h2 rfl)
theorem same_upd {H : Hp} {p : Addr} {o : HO} (h : H p = none) : Same H (upd H p o) := fun b x e => by
  rw [upd_ne (ne_of_none e h)]
  exact e
theorem len_line {n : Nat} (h : n ≤ 100000) : n ≤ sizeLine := Nat.le_trans h (by decide)
theorem lt_line {n : Nat} (h : n < 100000) : n < sizeLine := Nat.lt_of_lt_of_le h (by decide)
local macro_rules | `(tactic| walk_at "rd") => `(tactic| repeat (first
  | refine ⟨_, rfl, ?_⟩
  | refine ⟨_, _, rfl, rfl, ?_⟩
  | refine ⟨rfl, ?_⟩
  | refine Or.inl ⟨_, rfl, ?_⟩
  | refine ⟨(by show (0 : Int) < _; decide), ?_⟩
  | refine ⟨(⟨by decide, by decide⟩ : CDiv _ _), ?_⟩
  | refine ⟨(Or.inl ⟨by decide, by decide⟩ : CMul _ _), ?_⟩
  | refine ⟨(Or.inr ⟨by decide, by decide⟩ : CMul _ _), ?_⟩))
/-! ### data that are compared -/
def Sh (n : Nat) (d : PyData) : Prop := d.canLay0 = true ∧ d.depth ≤ n
theorem Sh.mono {n m : Nat} {d : PyData} (h : Sh n d) (l : n ≤ m) : Sh m d := ⟨h.1, Nat.le_trans h.2 l⟩
theorem sh_all : ∀ {n : Nat} {ds : List PyData}, (∀ d ∈ ds, Sh n d) → PyData.canLayAll0 ds = true ∧ PyData.depthAll ds ≤ n
  | n, [], _ => ⟨by simp [PyData.canLayAll0], by simp [PyData.depthAll]⟩
  | n, d :: ds, h => by
    have h1 := h d List.mem_cons_self
    have h2 := sh_all fun e he => h e (List.mem_cons_of_mem _ he)
    refine ⟨?_, ?_⟩
    · simp only [PyData.canLayAll0, Bool.and_eq_true]; exact ⟨h1.1, h2.1⟩
    · simp only [PyData.depthAll]; exact Nat.max_le.mpr ⟨h1.2, h2.2⟩
theorem sh_list {n : Nat} {ds : List PyData} (h : ∀ d ∈ ds, Sh n d) : Sh (n + 1) (.list ds) := by
  have q := sh_all h
  exact ⟨by simp only [PyData.canLay0]; exact q.1, by simp only [PyData.depth]; exact Nat.succ_le_succ q.2⟩
theorem sh_tuple {n : Nat} {ds : List PyData} (h : ∀ d ∈ ds, Sh n d) : Sh (n + 1) (.tuple ds) := by
  have q := sh_all h
  exact ⟨by simp only [PyData.canLay0]; exact q.1, by simp only [PyData.depth]; exact Nat.succ_le_succ q.2⟩
theorem sh_int (i : Int) : Sh 0 (.int i) := ⟨by simp [PyData.canLay0], by simp [PyData.depth]⟩
theorem sh_bool (i : Bool) : Sh 0 (.bool i) := ⟨by simp [PyData.canLay0], by simp [PyData.depth]⟩
theorem sh_none : Sh 0 .none := ⟨by simp [PyData.canLay0], by simp [PyData.depth]⟩
theorem sh_str {s : Str} (h : PyData.strOk s = true) : Sh 0 (.str s) := ⟨by simp only [PyData.canLay0]; exact h, by simp [PyData.depth]⟩
theorem Sh.shaped {n : Nat} {d : PyData} (h : Sh n d) (l : n ≤ 64 := by decide) : SeqAt.shaped d = true := by
  show (d.canLay0 && decide (d.depth ≤ 64)) = true
  rw [h.1, decide_eq_true (Nat.le_trans h.2 l)]
  rfl
theorem Sh.self {n : Nat} {d : PyData} (h : Sh n d) : PyData.eqv d d = true := SeqAt.eqv_refl d h.1
def pInts (xs : List Int) : PyData := .list (xs.map PyData.int)
theorem sh_ints (xs : List Int) : Sh 1 (pInts xs) := sh_list fun d hd => by
  obtain ⟨i, _, rfl⟩ := List.mem_map.mp hd
  exact sh_int i
theorem dpall_ints {K : PySem.W.Frag} {H : Hp} : ∀ xs : List Int, DpAll K H (xs.map V.int) (xs.map PyData.int)
  | [] => .nil
  | x :: r => .cons (.int x) (dpall_ints r)
theorem dp_ints {K : PySem.W.Frag} {H : Hp} {p : Addr} {xs : List Int} (h : SqL K H p (xs.map V.int)) : Dp K H (.ref p) (pInts xs) := .lst h (dpall_ints xs)
/-! ### views: what is new, what stands -/
structure Ext (V H V' H' : Hp) : Prop where
  vv : Same V V'
  vh : Same V' H'
  hh : Same H H'
  nw : ∀ a, V' a ≠ none → V a ≠ none ∨ H a = none
theorem Ext.refl {V H : Hp} (h : Same V H) : Ext V H V H := ⟨Same.refl V, h, Same.refl H, fun _ h => Or.inl h⟩
theorem Ext.trans {V H V1 H1 V2 H2 : Hp} (a : Ext V H V1 H1) (b : Ext V1 H1 V2 H2) : Ext V H V2 H2 :=
  ⟨a.vv.trans b.vv, b.vh, a.hh.trans b.hh, fun x h => by
    rcases b.nw x h with q | q
    · exact a.nw x q
    · exact Or.inr (a.hh.free q)⟩
theorem none_of_same {V H : Hp} {p : Addr} (s : Same V H) (h : H p = none) : V p = none := s.free h
theorem Ext.new {V H : Hp} {p : Addr} {o : HO} (s : Same V H) (h : H p = none) : Ext V H (upd V p o) (upd H p o) :=
  ⟨same_upd (s.free h), fun b u e => by
    by_cases hb : b = p
    · subst hb; rw [upd_same] at e ⊢; exact e
    · rw [upd_ne hb] at e ⊢; exact s b u e, same_upd h, fun a e => by
    by_cases ha : a = p
    · subst ha; exact Or.inr h
    · rw [upd_ne ha] at e; exact Or.inl e⟩
/-- a new object that the view does not take in -/
theorem Ext.skip {V H : Hp} {p : Addr} {o : HO} (s : Same V H) (h : H p = none) : Ext V H V (upd H p o) :=
  ⟨Same.refl V, s.trans (same_upd h), same_upd h, fun _ e => Or.inl e⟩
theorem Ext.keepOut {V H V' H' : Hp} (x : Ext V H V' H') {D : Addr} (h : V D = none) (hd : H D ≠ none) : V' D = none := by
  cases e : V' D with
  | none => rfl
  | some o =>
    rcases x.nw D (by rw [e]; exact fun z => by cases z) with q | q
    · exact absurd h q
    · exact absurd q hd
/-- an object outside of the view changes -/
theorem Ext.poke {V H V' H' : Hp} (x : Ext V H V' H') {D : Addr} {o : HO} (hd : H D = none) (h : V' D = none) : Ext V H V' (upd H' D o) :=
  ⟨x.vv, fun b u e => by
    have hb : b ≠ D := fun z => by rw [z, h] at e; cases e
    rw [upd_ne hb]; exact x.vh b u e, fun b u e => by
    have hb : b ≠ D := ne_of_none e hd
    rw [upd_ne hb]; exact x.hh b u e, x.nw⟩
/-- the object at D, done, is taken in -/
theorem Ext.take {V H V' H' : Hp} (x : Ext V H V' H') {D : Addr} {o : HO} (hd : H D = none) (h : V' D = none) (e : H' D = some o) : Ext V H (upd V' D o) H' :=
  ⟨x.vv.trans (same_upd h), fun b u q => by
    by_cases hb : b = D
    · subst hb; rw [upd_same] at q; rw [e]; exact q
    · rw [upd_ne hb] at q; exact x.vh b u q, x.hh, fun a q => by
    by_cases ha : a = D
    · subst ha; exact Or.inr hd
    · rw [upd_ne ha] at q; exact x.nw a q⟩
theorem _root_.L2.Same.sqt {K : PySem.W.Frag} {H H' : Hp} {a : Addr} {xs : List V} (e : Same H H') (h : SqT K H a xs) : SqT K H' a xs := by
  rcases h with (h | ⟨o, h⟩) | h
  · exact .inl (.inl (e _ _ h))
  · exact .inl (.inr ⟨o, e _ _ h⟩)
  · exact .inr h
mutual
theorem dp_same {K : PySem.W.Frag} {H H' : Hp} (s : Same H H') : ∀ (d : PyData) (v : V), Dp K H v d → Dp K H' v d
  | .none, _, h => by cases h; exact .non
  | .bool b, _, h => by cases h; exact .bl b
  | .int i, _, h => by cases h; exact .int i
  | .str x, _, h => by cases h; exact .str x
  | .list ds, _, h => by
    cases h with
    | lst q r => exact .lst (s.seq q) (dpall_same s ds _ r)
  | .tuple ds, _, h => by
    cases h with
    | tup q r => exact .tup (s.sqt q) (dpall_same s ds _ r)
  | .dict _, _, h => by cases h
theorem dpall_same {K : PySem.W.Frag} {H H' : Hp} (s : Same H H') : ∀ (ds : List PyData) (vs : List V), DpAll K H vs ds → DpAll K H' vs ds
  | [], _, h => by cases h; exact .nil
  | d :: ds, _, h => by
    cases h with
    | cons q r => exact .cons (dp_same s d _ q) (dpall_same s ds _ r)
end
theorem _root_.L2.Dp.to {K : PySem.W.Frag} {H H' : Hp} {v : V} {d : PyData} (h : Dp K H v d) (s : Same H H') : Dp K H' v d := dp_same s d v h
theorem _root_.L2.DpAll.to {K : PySem.W.Frag} {H H' : Hp} {v : List V} {d : List PyData} (h : DpAll K H v d) (s : Same H H') : DpAll K H' v d := dpall_same s d v h
theorem dpall_len {K : PySem.W.Frag} {H : Hp} : ∀ {vs : List V} {ds : List PyData}, DpAll K H vs ds → vs.length = ds.length
  | _, [], h => by cases h; rfl
  | _, d :: ds, h => by
    cases h with
    | cons q r => exact congrArg (· + 1) (dpall_len r)
theorem dpall_get {K : PySem.W.Frag} {H : Hp} : ∀ {vs : List V} {ds : List PyData} {i : Nat} {v : V}, DpAll K H vs ds → vs[i]? = some v → ∃ d, ds[i]? = some d ∧ Dp K H v d
  | _, [], i, v, h, e => by cases h; cases e
  | _, d :: ds, i, v, h, e => by
    cases h with
    | cons q r =>
      match i, e with
      | 0, e => cases e; exact ⟨d, rfl, q⟩
      | i + 1, e => exact dpall_get (i := i) r e
theorem dpall_get' {K : PySem.W.Frag} {H : Hp} : ∀ {vs : List V} {ds : List PyData} {i : Nat} {d : PyData}, DpAll K H vs ds → ds[i]? = some d → ∃ v, vs[i]? = some v ∧ Dp K H v d
  | _, [], i, d, h, e => by cases e
  | _, d :: ds, i, d', h, e => by
    cases h with
    | cons q r =>
      match i, e with
      | 0, e => cases e; exact ⟨_, rfl, q⟩
      | i + 1, e => exact dpall_get' (i := i) r e
theorem dpall_app {K : PySem.W.Frag} {H : Hp} : ∀ {vs ws : List V} {ds es : List PyData}, DpAll K H vs ds → DpAll K H ws es → DpAll K H (vs ++ ws) (ds ++ es)
  | _, _, [], _, h, g => by cases h; exact g
  | _, _, d :: ds, _, h, g => by
    cases h with
    | cons q r => exact .cons q (dpall_app r g)
theorem dp_list {K : PySem.W.Frag} {H : Hp} {v : V} {ds : List PyData} (h : Dp K H v (.list ds)) : ∃ a xs, v = .ref a ∧ SqL K H a xs ∧ DpAll K H xs ds := by
  cases h with
  | lst q r => exact ⟨_, _, rfl, q, r⟩
theorem dp_tuple {K : PySem.W.Frag} {H : Hp} {v : V} {ds : List PyData} (h : Dp K H v (.tuple ds)) : ∃ a xs, v = .ref a ∧ SqT K H a xs ∧ DpAll K H xs ds := by
  cases h with
  | tup q r => exact ⟨_, _, rfl, q, r⟩
theorem dp_int {K : PySem.W.Frag} {H : Hp} {v : V} {i : Int} (h : Dp K H v (.int i)) : v = .int i := by cases h; rfl
theorem dp_str {K : PySem.W.Frag} {H : Hp} {v : V} {i : Str} (h : Dp K H v (.str i)) : v = .str i := by cases h; rfl
theorem dp_bool {K : PySem.W.Frag} {H : Hp} {v : V} {i : Bool} (h : Dp K H v (.bool i)) : v = .bl i := by cases h; rfl
/-! ### comprehensions over any walk -/
def fm {α : Type} (f : Nat → Option α) (n : Nat) : List α := (List.range n).filterMap f
theorem fm_succ {α : Type} (f : Nat → Option α) (n : Nat) : fm f (n + 1) = fm f n ++ (f n).toList := by
  unfold fm
  rw [List.range_succ, List.filterMap_append]
  congr 1
theorem fm_len {α : Type} (f : Nat → Option α) (n : Nat) : (fm f n).length ≤ n := by
  have h := List.length_filterMap_le f (List.range n)
  rw [List.length_range] at h
  exact h
structure LcInv (K : PySem.W.Frag) (V0 H0 : Hp) (D : Addr) (acc : List PyData) (H : Hp) : Prop where
  ex : ∃ V xs, Ext V0 H0 V H ∧ V D = none ∧ H D = some (.lst xs) ∧ DpAll K V xs acc
theorem LcInv.start {K : PySem.W.Frag} {V0 H0 : Hp} {D : Addr} (s : Same V0 H0) (hD : H0 D = none) : LcInv K V0 H0 D [] (upd H0 D (.lst [])) :=
  ⟨V0, [], Ext.skip s hD, s.free hD, upd_same, .nil⟩
theorem LcInv.done {K : PySem.W.Frag} {V0 H0 H : Hp} {D : Addr} {acc : List PyData} (hD : H0 D = none) (i : LcInv K V0 H0 D acc H) : ∃ U xs, Ext V0 H0 U H ∧ U D = some (.lst xs) ∧ DpAll K U xs acc ∧ Dp K U (.ref D) (.list acc) := by
  obtain ⟨V, xs, x, hv, hd, dp⟩ := i.ex
  exact ⟨_, xs, x.take hD hv hd, upd_same, dp.to (same_upd hv), .lst (SqL.of upd_same) (dp.to (same_upd hv))⟩
/-- one more item -/
theorem LcInv.push {K : PySem.W.Frag} {V0 H0 U H U' H' : Hp} {D : Addr} {acc : List PyData} {xs : List V} {y : V} {d : PyData} (hD : H0 D = none) (x : Ext V0 H0 U H) (hv : U D = none) (hd : H D = some (.lst xs)) (dp : DpAll K U xs acc)
    (x2 : Ext U H U' H') (e : Dp K U' y d) (hl : acc.length < 100000) :
    ∃ acc', H' D = some (.lst acc') ∧ acc'.length < sizeLine ∧ LcInv K V0 H0 D (acc ++ [d]) (upd H' D (.lst (acc' ++ [y]))) := by
  have hv' : U' D = none := x2.keepOut hv (by rw [hd]; exact fun z => by cases z)
  refine ⟨xs, x2.hh _ _ hd, lt_line (by rw [dpall_len dp]; exact hl), U', xs ++ [y], (x.trans x2).poke hD hv', hv', upd_same, dpall_app (dp.to x2.vv) (.cons e .nil)⟩
/-- a comprehension's reading over a walk that leaves the heap as it is: at turn i the item x, then f i: the data of what is put in, or none -/
theorem lc_dp0 {J : It} {n : Nat} {G : Hp → Prop} {Y : Nat → Hp → V → Hp → Prop} (wk : Walk J n G Y) {K : PySem.W.Frag} {V0 H0 : Hp} {D : Addr} {g : TG} {tt : TT} {te : TE} {vs : List Nat} {σ : St} {Qd : Hp → Prop} (f : Nat → Option PyData) (σ0 : St) (hσ : wipe σ vs = σ0) (s0 : Same V0 H0) (hD : H0 D = none) (hn : n < 100000)
    (hG : ∀ H, Same H0 H → G H) (hY : ∀ i H x H', Y i H x H' → H' = H)
    (hs : ∀ i x V H, i < n → Ext V0 H0 V H → Y i H x H → ∀ (Qy : VK) (Qn : Hp → Prop), (∀ d y V' H', f i = some d → Ext V H V' H' → Dp K V' y d → Qy y H') → (f i = none → ∀ V' H', Ext V H V' H' → Qn H') →
      g x σ0 H fun σ2 H2 => wipe σ2 vs = σ0 ∧ tt σ2 H2 fun b H3 => if b = true then te σ2 H3 Qy else Qn H3)
    (hd : ∀ (U H : Hp) (xs : List V), Ext V0 H0 U H → U D = none → H D = some (.lst xs) → DpAll K U xs (fm f n) → Qd H) :
    ∃ W : Nat → Nat → Hp → Prop, (∃ m, W 0 m (upd H0 D (.lst []))) ∧ ∀ i m H, W i m H →
      (J.stop i H ∧ Qd H) ∨ (J.go i H ∧ ∃ Nx : Hp → Prop, (∀ H', Nx H' → ∃ m', m' < m ∧ W (i + 1) m' H') ∧ ∀ x H', J.yld i H x H' → g x (wipe σ vs) H' fun σ2 H2 => wipe σ2 vs = wipe σ vs ∧ tt σ2 H2 fun b H3 =>
        if b = true then te σ2 H3 fun y H4 => ∃ acc, H4 D = some (.lst acc) ∧ acc.length < sizeLine ∧ Nx (upd H4 D (.lst (acc ++ [y]))) else Nx H3) := by
  subst hσ
  refine lc_it wk (fun i H => LcInv K V0 H0 D (fm f i) H) (LcInv.start s0 hD) (fun i H _ p => ?_) (fun i x H H' hi p y => ?_) (fun H p => ?_)
  · obtain ⟨V, xs, x, _⟩ := p.ex
    exact hG H x.hh
  · obtain ⟨V, xs, x0, hv, hdd, dp⟩ := p.ex
    obtain rfl := hY i H x H' y
    refine hs i x V H' hi x0 y _ _ (fun d y' V' H4 e x2 dy => ?_) (fun e V' H4 x2 => ?_)
    · have hl : (fm f i).length < 100000 := Nat.lt_of_le_of_lt (fm_len f i) (Nat.lt_trans hi hn)
      obtain ⟨acc', a1, a2, a3⟩ := LcInv.push hD x0 hv hdd dp x2 dy hl
      refine ⟨acc', a1, a2, ?_⟩
      rw [fm_succ, e]
      exact a3
    · have hv' : V' D = none := x2.keepOut hv (by rw [hdd]; exact fun z => by cases z)
      rw [fm_succ, e]
      show LcInv K V0 H0 D (fm f i ++ []) H4
      rw [List.append_nil]
      exact ⟨V', xs, x0.trans x2, hv', x2.hh _ _ hdd, dp.to x2.vv⟩
  · obtain ⟨U, xs, x, hv, hdd, dp⟩ := p.ex
    exact hd U H xs x hv hdd dp
/-- a comprehension's reading over a walk that leaves the heap as it is: at turn i the item x, then f i: the data of what is put in, or none -/
theorem lc_dp {J : It} {n : Nat} {G : Hp → Prop} {Y : Nat → Hp → V → Hp → Prop} (wk : Walk J n G Y) {K : PySem.W.Frag} {V0 H0 : Hp} {D : Addr} {g : TG} {tt : TT} {te : TE} {vs : List Nat} {σ : St} {Qd : Hp → Prop} (f : Nat → Option PyData) (σ0 : St) (hσ : wipe σ vs = σ0) (s0 : Same V0 H0) (hD : H0 D = none) (hn : n < 100000)
    (hG : ∀ H, Same H0 H → G H) (hY : ∀ i H x H', Y i H x H' → H' = H)
    (hs : ∀ i x V H, i < n → Ext V0 H0 V H → Y i H x H → ∀ (Qy : VK) (Qn : Hp → Prop), (∀ d y V' H', f i = some d → Ext V H V' H' → Dp K V' y d → Qy y H') → (f i = none → ∀ V' H', Ext V H V' H' → Qn H') →
      g x σ0 H fun σ2 H2 => wipe σ2 vs = σ0 ∧ tt σ2 H2 fun b H3 => if b = true then te σ2 H3 Qy else Qn H3)
    (hd : ∀ (U H : Hp) (xs : List V), Ext V0 H0 U H → U D = some (.lst xs) → DpAll K U xs (fm f n) → Dp K U (.ref D) (.list (fm f n)) → Qd H) :
    ∃ W : Nat → Nat → Hp → Prop, (∃ m, W 0 m (upd H0 D (.lst []))) ∧ ∀ i m H, W i m H →
      (J.stop i H ∧ Qd H) ∨ (J.go i H ∧ ∃ Nx : Hp → Prop, (∀ H', Nx H' → ∃ m', m' < m ∧ W (i + 1) m' H') ∧ ∀ x H', J.yld i H x H' → g x (wipe σ vs) H' fun σ2 H2 => wipe σ2 vs = wipe σ vs ∧ tt σ2 H2 fun b H3 =>
        if b = true then te σ2 H3 fun y H4 => ∃ acc, H4 D = some (.lst acc) ∧ acc.length < sizeLine ∧ Nx (upd H4 D (.lst (acc ++ [y]))) else Nx H3) := by
  refine lc_dp0 wk f σ0 hσ s0 hD hn hG hY hs fun U H xs x hv hdd dp => ?_
  exact hd _ H xs (x.take hD hv hdd) upd_same (dp.to (same_upd hv)) (.lst (SqL.of upd_same) (dp.to (same_upd hv)))
theorem fm_map {α β : Type} (f : α → β) : ∀ (xs : List α), fm (fun i => (xs[i]?).map f) xs.length = xs.map f := by
  intro xs
  have h : ∀ n, n ≤ xs.length → fm (fun i => (xs[i]?).map f) n = (xs.take n).map f := by
    intro n
    induction n with
    | zero => intro _; rfl
    | succ n ih =>
      intro hn
      rw [fm_succ, ih (by omega), List.getElem?_eq_getElem (by omega), List.take_succ_eq_append_getElem (by omega), List.map_append]
      rfl
  rw [h _ (Nat.le_refl _), List.take_length]

theorem lc2_outer {J : It} {n : Nat} {G : Hp → Prop} {Y : Nat → Hp → V → Hp → Prop} (wk : Walk J n G Y) {K : PySem.W.Frag} {V0 H0 : Hp} {D : Addr} {g : TG} {vs : List Nat} {σ : St} {body : St → Hp → (Hp → Prop) → Prop} {Qd : Hp → Prop} (F : Nat → List PyData) (σ0 : St) (hσ : wipe σ vs = σ0) (s0 : Same V0 H0) (hD : H0 D = none) (hF : F 0 = [])
    (hG : ∀ H, Same H0 H → G H) (hY : ∀ i H x H', Y i H x H' → H' = H)
    (hs : ∀ i x H, i < n → LcInv K V0 H0 D (F i) H → Y i H x H → ∀ Nx : Hp → Prop, (∀ H', LcInv K V0 H0 D (F (i + 1)) H' → Nx H') → g x σ0 H fun σ2 H2 => wipe σ2 vs = σ0 ∧ body σ2 H2 Nx)
    (hd : ∀ (U H : Hp) (xs : List V), Ext V0 H0 U H → U D = some (.lst xs) → DpAll K U xs (F n) → Dp K U (.ref D) (.list (F n)) → Qd H) :
    ∃ W : Nat → Nat → Hp → Prop, (∃ m, W 0 m (upd H0 D (.lst []))) ∧ ∀ i m H, W i m H →
      (J.stop i H ∧ Qd H) ∨ (J.go i H ∧ ∃ Nx : Hp → Prop, (∀ H', Nx H' → ∃ m', m' < m ∧ W (i + 1) m' H') ∧ ∀ x H', J.yld i H x H' → g x (wipe σ vs) H' fun σ2 H2 => wipe σ2 vs = wipe σ vs ∧ body σ2 H2 Nx) := by
  subst hσ
  refine ⟨fun i m H => m = n - i ∧ i ≤ n ∧ LcInv K V0 H0 D (F i) H, ⟨n, by simp, Nat.zero_le _, by rw [hF]; exact LcInv.start s0 hD⟩, ?_⟩
  rintro i m H ⟨rfl, hi, p⟩
  have sH : Same H0 H := by obtain ⟨_, _, x, _⟩ := p.ex; exact x.hh
  by_cases hlt : i < n
  · refine .inr ⟨wk.goes i H hlt (hG H sH), fun H' => LcInv K V0 H0 D (F (i + 1)) H', fun H' p' => ⟨n - (i + 1), by omega, rfl, hlt, p'⟩, fun x H' y => ?_⟩
    have y' := wk.yields i H x H' hlt (hG H sH) y
    obtain rfl := hY i H x H' y'
    exact hs i x H' hlt p y' _ fun _ h => h
  · have e : i = n := by omega
    subst e
    obtain ⟨U, xs, x, e1, e2, e3⟩ := p.done hD
    exact .inl ⟨wk.stops H (hG H sH), hd U H xs x e1 e2 e3⟩
theorem lc2_inner {J : It} {n : Nat} {G : Hp → Prop} {Y : Nat → Hp → V → Hp → Prop} (wk : Walk J n G Y) {K : PySem.W.Frag} {V0 H0 H4 : Hp} {D : Addr} {acc0 : List PyData} {g : TG} {tt : TT} {te : TE} {vs : List Nat} {σ : St} {Nx : Hp → Prop} (f : Nat → Option PyData) (σ0 : St) (hσ : wipe σ vs = σ0) (hD : H0 D = none)
    (inv : LcInv K V0 H0 D acc0 H4) (hn : acc0.length + n < 100000) (hG : ∀ H, Same H0 H → G H) (hY : ∀ i H x H', Y i H x H' → H' = H)
    (hs : ∀ i x V H, i < n → Ext V0 H0 V H → Y i H x H → ∀ (Qy : VK) (Qn : Hp → Prop), (∀ d y V' H', f i = some d → Ext V H V' H' → Dp K V' y d → Qy y H') → (f i = none → ∀ V' H', Ext V H V' H' → Qn H') →
      g x σ0 H fun σ2 H2 => wipe σ2 vs = σ0 ∧ tt σ2 H2 fun b H3 => if b = true then te σ2 H3 Qy else Qn H3)
    (hd : ∀ H, LcInv K V0 H0 D (acc0 ++ fm f n) H → Nx H) :
    ∃ W : Nat → Nat → Hp → Prop, (∃ m, W 0 m H4) ∧ ∀ i m H, W i m H →
      (J.stop i H ∧ Nx H) ∨ (J.go i H ∧ ∃ Nx1 : Hp → Prop, (∀ H', Nx1 H' → ∃ m', m' < m ∧ W (i + 1) m' H') ∧ ∀ x H', J.yld i H x H' → g x (wipe σ vs) H' fun σ2 H2 => wipe σ2 vs = wipe σ vs ∧ tt σ2 H2 fun b H3 =>
        if b = true then te σ2 H3 fun y H4 => ∃ acc, H4 D = some (.lst acc) ∧ acc.length < sizeLine ∧ Nx1 (upd H4 D (.lst (acc ++ [y]))) else Nx1 H3) := by
  subst hσ
  refine ⟨fun i m H => m = n - i ∧ i ≤ n ∧ LcInv K V0 H0 D (acc0 ++ fm f i) H, ⟨n, by simp, Nat.zero_le _, by rw [show fm f 0 = [] from rfl, List.append_nil]; exact inv⟩, ?_⟩
  rintro i m H ⟨rfl, hi, p⟩
  have sH : Same H0 H := by obtain ⟨_, _, x, _⟩ := p.ex; exact x.hh
  by_cases hlt : i < n
  · refine .inr ⟨wk.goes i H hlt (hG H sH), fun H' => LcInv K V0 H0 D (acc0 ++ fm f (i + 1)) H', fun H' p' => ⟨n - (i + 1), by omega, rfl, hlt, p'⟩, fun x H' y => ?_⟩
    have y' := wk.yields i H x H' hlt (hG H sH) y
    obtain rfl := hY i H x H' y'
    obtain ⟨V, xs, x0, hv, hdd, dp⟩ := p.ex
    refine hs i x V H' hlt x0 y' _ _ (fun d y' V' H4 e x2 dy => ?_) (fun e V' H4 x2 => ?_)
    · have hl : (acc0 ++ fm f i).length < 100000 := by have := fm_len f i; rw [List.length_append]; omega
      obtain ⟨acc', a1, a2, a3⟩ := LcInv.push hD x0 hv hdd dp x2 dy hl
      refine ⟨acc', a1, a2, ?_⟩
      rw [fm_succ, e, ← List.append_assoc]
      exact a3
    · have hv' : V' D = none := x2.keepOut hv (by rw [hdd]; exact fun z => by cases z)
      rw [fm_succ, e]
      show LcInv K V0 H0 D (acc0 ++ (fm f i ++ [])) H4
      rw [List.append_nil]
      exact ⟨V', xs, x0.trans x2, hv', x2.hh _ _ hdd, dp.to x2.vv⟩
  · have e : i = n := by omega
    subst e
    exact .inl ⟨wk.stops H (hG H sH), hd H p⟩
theorem fm_some {α : Type} (f : Nat → α) (n : Nat) : fm (fun i => some (f i)) n = (List.range n).map f := by
  induction n with
  | zero => rfl
  | succ n ih => rw [fm_succ, ih, List.range_succ, List.map_append]; rfl
theorem fl_take' {α : Type} {β : Type} (f : α → List β) : ∀ (xs : List α) (i : Nat) (x : α), xs[i]? = some x → (xs.take (i + 1)).flatMap f = (xs.take i).flatMap f ++ f x := by
  intro xs i x h
  obtain ⟨hi, e⟩ := List.getElem?_eq_some_iff.mp h
  rw [List.take_succ_eq_append_getElem hi, List.flatMap_append, e]
  show _ ++ (f x ++ []) = _
  rw [List.append_nil]
theorem fl_le' {α : Type} {β : Type} (f : α → List β) (xs : List α) (i : Nat) : ((xs.take i).flatMap f).length ≤ (xs.flatMap f).length := by
  have : xs.flatMap f = (xs.take i).flatMap f ++ (xs.drop i).flatMap f := by rw [← List.flatMap_append, List.take_append_drop]
  rw [this, List.length_append]; omega
/-! ### lists of ints, texts -/
theorem tyL {K : PySem.W.Frag} {H : Hp} {a : Addr} {xs : List V} (h : SqL K H a xs) : TyX K H (.ref a) (.type "list") := by
  rcases h with (h | ⟨o, h⟩) | ⟨o, its, n, h, c, _⟩
  · exact .base (.lst h)
  · exact .base (.frz h)
  · exact .kList h c
theorem tyT {K : PySem.W.Frag} {H : Hp} {a : Addr} {xs : List V} (h : SqT K H a xs) : TyX K H (.ref a) (.type "tuple") := by
  rcases h with (h | ⟨o, h⟩) | ⟨o, its, n, h, c, _⟩
  · exact .base (.tup h)
  · exact .fTuple h
  · exact .kTuple h c
theorem dp_intsV {K : PySem.W.Frag} {H : Hp} : ∀ {xs : List V} {is : List Int}, DpAll K H xs (is.map PyData.int) → xs = is.map V.int
  | _, [], r => by cases r; rfl
  | _, i :: is, r => by
    cases r with
    | cons r1 r2 => cases r1; rw [dp_intsV r2]; rfl
theorem dp_intsL {K : PySem.W.Frag} {H : Hp} {a : Addr} {is : List Int} (h : Dp K H (.ref a) (.list (is.map PyData.int))) : SqL K H a (is.map V.int) := by
  obtain ⟨a', xs, e, q, r⟩ := dp_list h
  cases e
  rw [← dp_intsV r]; exact q
theorem dp_strsV {K : PySem.W.Frag} {H : Hp} : ∀ {xs : List V} {is : List Str}, DpAll K H xs (is.map PyData.str) → xs = is.map V.str
  | _, [], r => by cases r; rfl
  | _, i :: is, r => by
    cases r with
    | cons r1 r2 => cases r1; rw [dp_strsV r2]; rfl
theorem dp_boolsV {K : PySem.W.Frag} {H : Hp} : ∀ {xs : List V} {is : List Bool}, DpAll K H xs (is.map PyData.bool) → xs = is.map V.bl
  | _, [], r => by cases r; rfl
  | _, i :: is, r => by
    cases r with
    | cons r1 r2 => cases r1; rw [dp_boolsV r2]; rfl
theorem dp_boolsL {K : PySem.W.Frag} {H : Hp} {a : Addr} {is : List Bool} (h : Dp K H (.ref a) (.list (is.map PyData.bool))) : SqL K H a (is.map V.bl) := by
  obtain ⟨a', xs, e, q, r⟩ := dp_list h
  cases e
  rw [← dp_boolsV r]; exact q
theorem size_eq (z : Str) : z.cps.size = z.cps.toList.length := by simp
theorem cps_at (z : Str) (i : Nat) : z.cps[i]? = z.cps.toList[i]? := by simp
theorem fm_list {α β : Type} (f : α → β) (xs : List α) (n : Nat) (h : n = xs.length) (g : Nat → Option β) (hg : ∀ i x, xs[i]? = some x → g i = some (f x)) : fm g n = xs.map f := by
  subst h
  rw [← fm_map f xs]
  unfold fm
  have : ∀ l : List Nat, (∀ i ∈ l, i < xs.length) → l.filterMap g = l.filterMap fun i => (xs[i]?).map f := by
    intro l
    induction l with
    | nil => intro _; rfl
    | cons i l ih =>
      intro hl
      have hi' := hl i List.mem_cons_self
      rw [List.filterMap_cons, List.filterMap_cons, hg i _ (List.getElem?_eq_getElem hi'), List.getElem?_eq_getElem hi', ih fun j hj => hl j (List.mem_cons_of_mem _ hj)]
      rfl
  exact this _ fun i hi => List.mem_range.mp hi
theorem rep_flat {α : Type} (v : α) : ∀ n : Nat, (List.replicate n [v]).flatten = List.replicate n v
  | 0 => rfl
  | n + 1 => by rw [List.replicate_succ, List.replicate_succ, List.flatten_cons, rep_flat v n]; rfl
/-- a list's object that is tracked, at p, new -/
structure NewL (H H' : Hp) (p : Addr) (xs : List V) : Prop where
  new : H p = none
  same : Same H H'
  at_ : H' p = some (.lst xs)
theorem NewL.ext {U H H' : Hp} {p : Addr} {xs : List V} (n : NewL H H' p xs) (s : Same U H) : Ext U H (upd U p (.lst xs)) H' :=
  ⟨same_upd (s.free n.new), fun b u e => by
    by_cases hb : b = p
    · subst hb; rw [upd_same] at e; rw [n.at_]; exact e
    · rw [upd_ne hb] at e; exact n.same _ _ (s b u e), n.same, fun a e => by
    by_cases ha : a = p
    · subst ha; exact Or.inr n.new
    · rw [upd_ne ha] at e; exact Or.inl e⟩
theorem str_app (x y : Str) : (x ++ y).cps.toList = x.cps.toList ++ y.cps.toList := Array.toList_append
theorem str_len_app (x y : Str) : (x ++ y).length = x.length + y.length := by
  show (x ++ y).cps.size = x.cps.size + y.cps.size
  rw [size_eq, str_app, List.length_append, ← size_eq, ← size_eq]
/-! ### _law_cell, _law_row -/
def lawCell (ns : List Int) (k : Nat) : Int :=
  let c := if 0 < ns.length then ns.getD (k % ns.length) 0 else 0
  if c < 0 then 1 - 2 * c else c
theorem lawCell_nn (ns : List Int) (k : Nat) : 0 ≤ lawCell ns k := by
  unfold lawCell
  simp only
  split <;> omega
def lawOne (c : Int) (k : Nat) : Int := (c * 48271 + (k : Int) * 69621 + 12345) % 2147483647
def lawTwo (o : Int) (k : Nat) : Int := (o * o + 16807 * (k : Int) + 7) % 2147483629
def lawRow (ns : List Int) (k : Nat) : Int :=
  if k < ns.length ∧ 1000000000 ≤ lawCell ns k then lawCell ns k
  else (lawTwo (lawOne (lawCell ns k) k) k * lawTwo (lawOne (lawCell ns k) k) k + lawOne (lawCell ns k) k) % 4294967291 + 4294967296 * (lawOne (lawCell ns k) k + 1)
theorem lawOne_b (c : Int) (k : Nat) : 0 ≤ lawOne c k ∧ lawOne c k < 2147483647 := by unfold lawOne; omega
theorem lawTwo_b (c : Int) (k : Nat) : 0 ≤ lawTwo c k ∧ lawTwo c k < 2147483629 := by
  unfold lawTwo
  generalize c * c + 16807 * (k : Int) + 7 = x
  omega
theorem lawRow_nn (ns : List Int) (k : Nat) : 0 ≤ lawRow ns k := by
  unfold lawRow
  have h1 := lawOne_b (lawCell ns k) k
  split
  · exact lawCell_nn ns k
  · generalize lawTwo (lawOne (lawCell ns k) k) k * lawTwo (lawOne (lawCell ns k) k) k + lawOne (lawCell ns k) k = x
    omega
def sp__law_cell (K : PySem.W.Frag) : Sp := fun vs H Q _ => ∃ (a : Addr) (ns : List Int) (k : Nat), vs = [.ref a, .int (k : Int)] ∧ SqL K H a (ns.map V.int) ∧ Q (.int (lawCell ns k)) H
theorem sc__law_cell : FnScope ["script", "k", "cell"] ["script", "k"] (defScope s__law_cell) := ⟨rfl, rfl, rfl, by decide +kernel, rfl, by decide +kernel, by decide +kernel⟩
theorem ok__law_cell (T : Txt K mg A) : FnOk P w K mg base CX0 1 A.f_law_cell A.d_law_cell ["script", "k"] (sp__law_cell K) := by
  refine T.F_law_cell.ok sc__law_cell (fun vs H Q E h => ?_) (fun cdv Ar outer s H vs Q E hr h => ?_)
  · obtain ⟨a, ns, k, rfl, _⟩ := h
    rfl
  · obtain ⟨a, ns, k, rfl, hS, q⟩ := h
    refine ⟨_, (pss_cons (ps_set (i := 2) sc__law_cell.nd rfl (Or.inl rfl) pe_int)
      (pss_cons (ps_if (pt_cmpR op_gt (pe_callB call_len_seq (by rfl) T.len PySem.boot_len (pa_cons (pv 0) pa_nil)) pe_int (nomark _))
      (pss_one (ps_set (i := 2) sc__law_cell.nd rfl (Or.inl rfl) (pe_ix ix_list (pv 0) (pe_op op_mod (pe_callTy call_int1 (by rfl) T.int (by decide +kernel) (pa_cons (pv 1) pa_nil)) (pe_callB call_len_seq (by rfl) T.len PySem.boot_len (pa_cons (pv 0) pa_nil))) (fun _ _ => rfl))))
      pss_nil)
      (pss_cons (ps_if (pt_cmpR op_lt (pv 2) pe_int (nomark _))
      (pss_one (ps_set (i := 2) sc__law_cell.nd rfl (Or.inl rfl) (pe_op op_sub pe_int (pe_op op_mul pe_int (pv 2)))))
      pss_nil)
      (pss_one (ps_ret (pv 2)))))), ?_⟩
    have two : ∀ (c : Int), (if c < 0 then 1 - 2 * c else c) = lawCell ns k → tSeq (tIfS (tTest (tOp (rI0 fun i j => .bl (decide (i < j))) (tVar 2) (tC (.int 0)))) (tAsg (tOp (rI0 fun i j => .int (i - j)) (tC (.int 1)) (tOp (rI CMul fun i j => .int (i * j)) (tC (.int 2)) (tVar 2))) (gName 2)) tNext) (tRet (tVar 2))
        { nx := fun _ H' => Q .non H', rt := Q } [some (.ref a), some (.int (k : Int)), some (.int c)] H := by
      intro c hc
      walk_at "rd"
      refine iteP (fun h => ?_) (fun h => ?_)
      · rw [if_pos h] at hc
        walk_at "rd"
        rw [← hc] at q; exact q
      · rw [if_neg h] at hc
        walk_at "rd"
        rw [← hc] at q; exact q
    refine ⟨.ref a, rfl, a, _, rfl, .inl hS, _, _, rfl, rfl, _, rfl, iteP (fun h => ?_) (fun h => ?_)⟩
    · have h0 : 0 < ns.length := by rw [List.length_map] at h; omega
      refine ⟨_, rfl, _, rfl, Or.inl ⟨_, rfl, ?_⟩⟩
      refine ⟨_, rfl, a, _, rfl, .inl hS, _, _, rfl, rfl, by show (0 : Int) < _; omega, a, _, _, .int (ns.getD (k % ns.length) 0), rfl, rfl, hS, ?_, ?_⟩
      · refine at_of (j := k % ns.length) ?_ ?_
        · rw [List.length_map]; exact (Int.natCast_emod _ _).symm
        · rw [List.getElem?_map, List.getElem?_eq_getElem (Nat.mod_lt _ h0), List.getD_eq_getElem?_getD, List.getElem?_eq_getElem (Nat.mod_lt _ h0)]; rfl
      · refine two _ ?_
        unfold lawCell; rw [if_pos h0]
    · have h0 : ¬ 0 < ns.length := by rw [List.length_map] at h; omega
      refine two _ ?_
      unfold lawCell; rw [if_neg h0]
def sp__law_row (K : PySem.W.Frag) : Sp := fun vs H Q _ => ∃ (a : Addr) (ns : List Int) (k : Nat), vs = [.ref a, .int (k : Int)] ∧ SqL K H a (ns.map V.int) ∧ Q (.int (lawRow ns k)) H
theorem sc__law_row : FnScope ["script", "k", "cell", "one", "two"] ["script", "k"] (defScope s__law_row) := ⟨rfl, rfl, rfl, by decide +kernel, rfl, by decide +kernel, by decide +kernel⟩
theorem ok__law_row (T : Txt K mg A) : FnOk P w K mg base CX0 2 A.f_law_row A.d_law_row ["script", "k"] (sp__law_row K) := by
  refine T.F_law_row.ok sc__law_row (fun vs H Q E h => ?_) (fun cdv Ar outer s H vs Q E hr h => ?_)
  · obtain ⟨a, ns, k, rfl, _⟩ := h
    rfl
  · obtain ⟨a, ns, k, rfl, hS, q⟩ := h
    refine ⟨_, (pss_cons (ps_set (i := 2) sc__law_row.nd rfl (Or.inl rfl) (pe_call (ok__law_cell T) (hr.mono (by decide)) rfl T.g_law_cell T.k_law_cell T.b_law_cell .nil pass0 (pa_cons (pv 0) (pa_cons (pv 1) pa_nil))))
      (pss_cons (ps_if (PW.pt (pw_and (pt_cmpR op_lt (pv 1) (pe_callB call_len_seq (by rfl) T.len PySem.boot_len (pa_cons (pv 0) pa_nil)) (nomark _)) (pw_and1 (pt_cmpR op_ge (pv 2) pe_int (nomark _)))))
      (pss_one (ps_ret (pv 2)))
      pss_nil)
      (pss_cons (ps_set (i := 3) sc__law_row.nd rfl (Or.inl rfl) (pe_op op_mod (pe_callTy call_int1 (by rfl) T.int (by decide +kernel) (pa_cons (pe_op op_add (pe_op op_add (pe_op op_mul (pv 2) pe_int) (pe_op op_mul (pv 1) pe_int)) pe_int) pa_nil)) pe_int))
      (pss_cons (ps_set (i := 4) sc__law_row.nd rfl (Or.inl rfl) (pe_op op_mod (pe_callTy call_int1 (by rfl) T.int (by decide +kernel) (pa_cons (pe_op op_add (pe_op op_add (pe_op op_mul (pv 3) (pv 3)) (pe_op op_mul pe_int (pv 1))) pe_int) pa_nil)) pe_int))
      (pss_one (ps_ret (pe_op op_add (pe_op op_mod (pe_callTy call_int1 (by rfl) T.int (by decide +kernel) (pa_cons (pe_op op_add (pe_op op_mul (pv 4) (pv 4)) (pv 3)) pa_nil)) pe_int) (pe_op op_mul pe_int (pe_op op_add (pv 3) pe_int))))))))), ?_⟩
    have b1 := lawOne_b (lawCell ns k) k
    have b2 := lawTwo_b (lawOne (lawCell ns k) k) k
    have m1 : CMul (lawOne (lawCell ns k) k) (lawOne (lawCell ns k) k) := Or.inl ⟨by omega, by omega⟩
    have m2 : CMul (lawTwo (lawOne (lawCell ns k) k) k) (lawTwo (lawOne (lawCell ns k) k) k) := Or.inl ⟨by omega, by omega⟩
    refine ⟨_, rfl, _, rfl, a, ns, k, rfl, hS, ?_⟩
    refine ⟨_, rfl, _, rfl, a, _, rfl, .inl hS, _, _, rfl, rfl, _, rfl, ?_⟩
    refine iteP (fun h => ?_) (fun h => ?_)
    · refine ⟨_, rfl, _, _, rfl, rfl, _, rfl, iteP (fun h2 => ?_) (fun h2 => ?_)⟩
      · have e : lawRow ns k = lawCell ns k := by unfold lawRow; rw [if_pos ⟨by rw [List.length_map] at h; omega, h2⟩]
        rw [e] at q
        exact ⟨_, rfl, q⟩
      · unfold lawRow at q
        rw [if_neg fun z => h2 z.2] at q
        walk_at "rd"
        refine ⟨m1, ?_⟩
        walk_at "rd"
        refine ⟨m2, ?_⟩
        walk_at "rd"
        exact q
    · unfold lawRow at q
      rw [if_neg fun z => h (by rw [List.length_map]; omega)] at q
      walk_at "rd"
      refine ⟨m1, ?_⟩
      walk_at "rd"
      refine ⟨m2, ?_⟩
      walk_at "rd"
      exact q
/-! ### a word that goes on by itself -/
theorem iteVP {p A B : Prop} [Decidable p] (h1 : p → A) (h2 : ¬ p → B) : if p then A else B := by
  by_cases h : p
  · rw [if_pos h]; exact h1 h
  · rw [if_neg h]; exact h2 h
/-- a new tuple is handed back -/
def RetT (H : Hp) (Q : VK) (xs : List V) : Prop := ∀ p H', Same H H' → H' p = some (.tup xs) → Q (.ref p) H'
theorem RetT.go {H : Hp} {Q : VK} {xs : List V} (h : ∀ p H', Same H H' → H' p = some (.tup xs) → Q (.ref p) H') : RetT H Q xs := h
theorem ne_self {d e : PyData} {A B : Prop} (hs : SeqAt.shaped d = true) (h : d = e) (hB : B) : if (!PyData.eqv d e) = true then A else B := by
  subst h
  have h2 : (d.canLay0 && decide (d.depth ≤ 64)) = true := hs
  have : PyData.eqv d d = true := SeqAt.eqv_refl d (by rw [Bool.and_eq_true] at h2; exact h2.1)
  rw [this]
  exact iteF hB
theorem eq_self {d e : PyData} {A B : Prop} (hs : SeqAt.shaped d = true) (h : d = e) (hA : A) : if PyData.eqv d e = true then A else B := by
  subst h
  have h2 : (d.canLay0 && decide (d.depth ≤ 64)) = true := hs
  have : PyData.eqv d d = true := SeqAt.eqv_refl d (by rw [Bool.and_eq_true] at h2; exact h2.1)
  rw [this]
  exact iteT hA
theorem t_ne {K : PySem.W.Frag} {x y : V} {H : Hp} {Q : VK} {d e : PyData} (h1 : Dp K H x d) (h2 : Dp K H y e) (s1 : SeqAt.shaped d = true) (s2 : SeqAt.shaped e = true) (q : Q (.bl (!PyData.eqv d e)) H) : rNeD K x y H Q := ⟨d, e, h1, h2, s1, s2, q⟩
theorem t_eq {K : PySem.W.Frag} {x y : V} {H : Hp} {Q : VK} {d e : PyData} (h1 : Dp K H x d) (h2 : Dp K H y e) (s1 : SeqAt.shaped d = true) (s2 : SeqAt.shaped e = true) (q : Q (.bl (PyData.eqv d e)) H) : rEqD K x y H Q := ⟨d, e, h1, h2, s1, s2, q⟩
/-! words that go on by themselves -/
local macro_rules | `(tactic| walk_at "sq") => `(tactic| first
  | exact SqT.of upd_same
  | exact SqL.of upd_same
  | assumption
  | exact SqT.of (by assumption)
  | exact SqL.of (by assumption)
  | (apply Same.sqt (same_upd (by assumption)); walk_at "sq")
  | (apply Same.seq (same_upd (by assumption)); walk_at "sq")
  | (apply Same.sqt (by assumption); walk_at "sq")
  | (apply Same.seq (by assumption); walk_at "sq"))
local macro_rules | `(tactic| walk_at "sm") => `(tactic| first
  | exact Same.refl _
  | assumption
  | (apply Same.trans _ (same_upd (by assumption)); walk_at "sm")
  | (apply Same.trans _ (by assumption); walk_at "sm"))
local macro_rules | `(tactic| walk_at "at") => `(tactic| first
  | exact atI_nat (j := 0) rfl
  | exact atI_nat (j := 1) rfl
  | exact atI_nat (j := 2) rfl
  | exact atI_nat (j := 3) rfl
  | exact atI_nat (j := 4) rfl
  | exact atI_nat (j := 5) rfl)
local macro_rules | `(tactic| walk_at "go1") => `(tactic| first
  | refine ⟨_, rfl, ?_⟩
  | refine ⟨_, _, rfl, rfl, ?_⟩
  | refine ⟨rfl, ?_⟩
  | refine Or.inl ⟨_, rfl, ?_⟩
  | refine ⟨(by show (0 : Int) < _; decide), ?_⟩
  | refine ⟨(⟨by decide, by decide⟩ : CDiv _ _), ?_⟩
  | refine ⟨(Or.inl ⟨by decide, by decide⟩ : CMul _ _), ?_⟩
  | refine ⟨(Or.inr ⟨by decide, by decide⟩ : CMul _ _), ?_⟩
  | refine ⟨_, _, rfl, ?_⟩
  | refine ⟨_, _, _, rfl, ?_⟩
  | refine ⟨_, _, _, _, rfl, ?_⟩
  | (refine And.intro (a := (0 : Int) ≤ _) ?_ ?_; focus omega)
  | (refine And.intro (a := _ ≤ sizeLine) ?_ (fun p hp => ?_); (focus (exact len_line (Nat.le_of_ble_eq_true rfl))))
  | refine RetT.go (fun p H' s e => ?_)
  | refine if_t rfl ?_
  | refine if_f rfl ?_
  | refine ⟨_, _, rfl, (by walk_at "sq"), rfl, ?_⟩
  | refine ⟨_, _, rfl, Or.inl (by walk_at "sq"), ?_⟩
  | refine ⟨_, _, rfl, Or.inr (by walk_at "sq"), ?_⟩
  | refine ⟨_, _, _, _, rfl, rfl, (by walk_at "sq"), (by walk_at "at"), ?_⟩
  | refine ⟨_, _, rfl, (by walk_at "sq"), (by show ¬(HT.sIx 4 0 (some 2) = 0 ∧ HT.sIx 4 4 none = 4); decide), fun p hp => ?_⟩
  | refine ⟨_, _, _, _, rfl, rfl, (by walk_at "sq"), (by walk_at "sq"), (by intro h; cases h), len_line (Nat.le_of_ble_eq_true rfl), (fun h => by cases h), fun _ p hp => ?_⟩)
local macro_rules | `(tactic| walk_at "go") => `(tactic| repeat walk_at "go1")
local macro_rules | `(tactic| walk_at "dps") => `(tactic| first
  | exact DpAll.nil
  | (apply DpAll.cons; (focus (walk_at "dp")); (focus (walk_at "dps"))))
local macro_rules | `(tactic| walk_at "dp") => `(tactic| first
  | exact Dp.int _
  | exact Dp.bl _
  | exact Dp.str _
  | exact Dp.non
  | (apply Dp.tup; (focus (walk_at "sq")); (focus (walk_at "dps")))
  | (apply Dp.lst; (focus (walk_at "sq")); (focus (walk_at "dps"))))
local macro_rules | `(tactic| walk_at "sh") => `(tactic| (show (PyData.canLay0 _ && decide (PyData.depth _ ≤ 64)) = true; simp [PyData.canLay0, PyData.canLayAll0, PyData.depth, PyData.depthAll]))
/-- a deep comparison: what is left is the if -/
local macro_rules | `(tactic| walk_at "ne") => `(tactic| (apply t_ne; (focus (walk_at "dp")); (focus (walk_at "dp")); (focus (walk_at "sh")); (focus (walk_at "sh")); refine ⟨_, rfl, ?_⟩))
local macro_rules | `(tactic| walk_at "neS") => `(tactic| (walk_at "ne"; refine ne_self ?_ ?_ ?_; (focus (walk_at "sh"))))
/-! ### places of popups -/
def mx (i j : Int) : Int := if j > i then j else i
def mn (i j : Int) : Int := if j < i then j else i
def sp_overlap_axis (K : PySem.W.Frag) : Sp := fun vs H Q _ => ∃ b l ob ol : Int, vs = [.int b, .int l, .int ob, .int ol] ∧ RetT H Q [.int (mx b ob), .int (mx (mn (b + l) (ob + ol) - mx b ob) 0)]
theorem sc_overlap_axis : FnScope ["begin", "length", "other_begin", "other_length", "first"] ["begin", "length", "other_begin", "other_length"] (defScope s_overlap_axis) := ⟨rfl, rfl, rfl, by decide +kernel, rfl, by decide +kernel, by decide +kernel⟩
theorem ok_overlap_axis (T : Txt K mg A) : FnOk P w K mg base CX0 1 A.foverlap_axis A.doverlap_axis ["begin", "length", "other_begin", "other_length"] (sp_overlap_axis K) := by
  refine T.Foverlap_axis.ok sc_overlap_axis (fun vs H Q E h => ?_) (fun cdv Ar outer s H vs Q E hr h => ?_)
  · obtain ⟨_, _, _, _, rfl, _⟩ := h
    rfl
  · obtain ⟨b, l, ob, ol, rfl, q⟩ := h
    refine ⟨_, (pss_cons (ps_set (i := 4) sc_overlap_axis.nd rfl (Or.inl rfl) (pe_callB (call_max2 rfl) (by rfl) T.max (by decide +kernel) (pa_cons (pv 0) (pa_cons (pv 2) pa_nil))))
      (pss_one (ps_ret (pe_tup (pa_cons (pv 4) (pa_cons (pe_callB (call_max2 rfl) (by rfl) T.max (by decide +kernel) (pa_cons (pe_op op_sub (pe_callB (call_min2 rfl) (by rfl) T.min (by decide +kernel) (pa_cons (pe_op op_add (pv 0) (pv 1)) (pa_cons (pe_op op_add (pv 2) (pv 3)) pa_nil))) (pv 4)) (pa_cons pe_int pa_nil))) pa_nil)))))), ?_⟩
    walk_at "go"
    exact q _ _ (by walk_at "sm") upd_same
/-! ### rectangles -/
structure Rc where
  x : Int
  y : Int
  w : Int
  h : Int
def rv (r : Rc) : List V := [.int r.x, .int r.y, .int r.w, .int r.h]
def ovR (a b : Rc) : Rc := ⟨mx a.x b.x, mx a.y b.y, mx (mn (a.x + a.w) (b.x + b.w) - mx a.x b.x) 0, mx (mn (a.y + a.h) (b.y + b.h) - mx a.y b.y) 0⟩
def sp_overlap (K : PySem.W.Frag) : Sp := fun vs H Q _ => ∃ (p1 p2 : Addr) (a b : Rc), vs = [.ref p1, .ref p2] ∧ SqT K H p1 (rv a) ∧ SqT K H p2 (rv b) ∧ RetT H Q (rv (ovR a b))
theorem sc_overlap : FnScope ["a", "b", "left", "width", "top", "height"] ["a", "b"] (defScope s_overlap) := ⟨rfl, rfl, rfl, by decide +kernel, rfl, by decide +kernel, by decide +kernel⟩
theorem ok_overlap (T : Txt K mg A) : FnOk P w K mg base CX0 2 A.foverlap A.doverlap ["a", "b"] (sp_overlap K) := by
  refine T.Foverlap.ok sc_overlap (fun vs H Q E h => ?_) (fun cdv Ar outer s H vs Q E hr h => ?_)
  · obtain ⟨_, _, _, _, rfl, _⟩ := h
    rfl
  · obtain ⟨p1, p2, a, b, rfl, h1, h2, q⟩ := h
    refine ⟨_, (pss_cons (ps_asg (pe_call (ok_overlap_axis T) (hr.mono (by decide)) rfl T.goverlap_axis T.koverlap_axis T.boverlap_axis .nil pass0 (pa_cons (pe_ix (r := rIxT K) ix_tup (pv 0) pe_int (fun _ _ => rfl)) (pa_cons (pe_ix (r := rIxT K) ix_tup (pv 0) pe_int (fun _ _ => rfl)) (pa_cons (pe_ix (r := rIxT K) ix_tup (pv 1) pe_int (fun _ _ => rfl)) (pa_cons (pe_ix (r := rIxT K) ix_tup (pv 1) pe_int (fun _ _ => rfl)) pa_nil))))) (pg_tup rfl (pgs_cons (pg_name (i := 2) sc_overlap.nd rfl (Or.inl rfl)) (pgs_cons (pg_name (i := 3) sc_overlap.nd rfl (Or.inl rfl)) pgs_nil))))
      (pss_cons (ps_asg (pe_call (ok_overlap_axis T) (hr.mono (by decide)) rfl T.goverlap_axis T.koverlap_axis T.boverlap_axis .nil pass0 (pa_cons (pe_ix (r := rIxT K) ix_tup (pv 0) pe_int (fun _ _ => rfl)) (pa_cons (pe_ix (r := rIxT K) ix_tup (pv 0) pe_int (fun _ _ => rfl)) (pa_cons (pe_ix (r := rIxT K) ix_tup (pv 1) pe_int (fun _ _ => rfl)) (pa_cons (pe_ix (r := rIxT K) ix_tup (pv 1) pe_int (fun _ _ => rfl)) pa_nil))))) (pg_tup rfl (pgs_cons (pg_name (i := 4) sc_overlap.nd rfl (Or.inl rfl)) (pgs_cons (pg_name (i := 5) sc_overlap.nd rfl (Or.inl rfl)) pgs_nil))))
      (pss_one (ps_ret (pe_tup (pa_cons (pv 2) (pa_cons (pv 4) (pa_cons (pv 3) (pa_cons (pv 5) pa_nil))))))))), ?_⟩
    walk_at "go"
    exact q _ _ (by walk_at "sm") upd_same
def insR (f : Rc) : Rc := ⟨f.x + 2, f.y + 10, f.w - 2 * 2, f.h - 10 - 2⟩
def frmR (f : Rc) : Rc := ⟨f.x - 2, f.y - 10, f.w + 2 * 2, f.h + 10 + 2⟩
def sp_inside_of (K : PySem.W.Frag) : Sp := fun vs H Q _ => ∃ (p1 : Addr) (a : Rc), vs = [.ref p1] ∧ SqT K H p1 (rv a) ∧ RetT H Q (rv (insR a))
theorem sc_inside_of : FnScope ["frame", "x", "y", "width", "height"] ["frame"] (defScope s_inside_of) := ⟨rfl, rfl, rfl, by decide +kernel, rfl, by decide +kernel, by decide +kernel⟩
theorem ok_inside_of (T : Txt K mg A) : FnOk P w K mg base CX0 1 A.finside_of A.dinside_of ["frame"] (sp_inside_of K) := by
  refine T.Finside_of.ok sc_inside_of (fun vs H Q E h => ?_) (fun cdv Ar outer s H vs Q E hr h => ?_)
  · obtain ⟨_, _, rfl, _⟩ := h
    rfl
  · obtain ⟨p1, a, rfl, h1, q⟩ := h
    refine ⟨_, (pss_cons (ps_asg (pv 0) (pg_tup rfl (pgs_cons (pg_name (i := 1) sc_inside_of.nd rfl (Or.inl rfl)) (pgs_cons (pg_name (i := 2) sc_inside_of.nd rfl (Or.inl rfl)) (pgs_cons (pg_name (i := 3) sc_inside_of.nd rfl (Or.inl rfl)) (pgs_cons (pg_name (i := 4) sc_inside_of.nd rfl (Or.inl rfl)) pgs_nil))))))
      (pss_one (ps_ret (pe_tup (pa_cons (pe_op op_add (pv 1) (pe_glob (v := .int (2)) rfl T.gBORDER ⟨_, rfl⟩)) (pa_cons (pe_op op_add (pv 2) (pe_glob (v := .int (10)) rfl T.gTITLE_BAR ⟨_, rfl⟩)) (pa_cons (pe_op op_sub (pv 3) (pe_op op_mul pe_int (pe_glob (v := .int (2)) rfl T.gBORDER ⟨_, rfl⟩))) (pa_cons (pe_op op_sub (pe_op op_sub (pv 4) (pe_glob (v := .int (10)) rfl T.gTITLE_BAR ⟨_, rfl⟩)) (pe_glob (v := .int (2)) rfl T.gBORDER ⟨_, rfl⟩)) pa_nil)))))))), ?_⟩
    walk_at "go"
    exact q _ _ (by walk_at "sm") upd_same
def sp_frame_of (K : PySem.W.Frag) : Sp := fun vs H Q _ => ∃ (p1 : Addr) (a : Rc), vs = [.ref p1] ∧ SqT K H p1 (rv a) ∧ RetT H Q (rv (frmR a))
theorem sc_frame_of : FnScope ["inside", "x", "y", "width", "height"] ["inside"] (defScope s_frame_of) := ⟨rfl, rfl, rfl, by decide +kernel, rfl, by decide +kernel, by decide +kernel⟩
theorem ok_frame_of (T : Txt K mg A) : FnOk P w K mg base CX0 1 A.fframe_of A.dframe_of ["inside"] (sp_frame_of K) := by
  refine T.Fframe_of.ok sc_frame_of (fun vs H Q E h => ?_) (fun cdv Ar outer s H vs Q E hr h => ?_)
  · obtain ⟨_, _, rfl, _⟩ := h
    rfl
  · obtain ⟨p1, a, rfl, h1, q⟩ := h
    refine ⟨_, (pss_cons (ps_asg (pv 0) (pg_tup rfl (pgs_cons (pg_name (i := 1) sc_frame_of.nd rfl (Or.inl rfl)) (pgs_cons (pg_name (i := 2) sc_frame_of.nd rfl (Or.inl rfl)) (pgs_cons (pg_name (i := 3) sc_frame_of.nd rfl (Or.inl rfl)) (pgs_cons (pg_name (i := 4) sc_frame_of.nd rfl (Or.inl rfl)) pgs_nil))))))
      (pss_one (ps_ret (pe_tup (pa_cons (pe_op op_sub (pv 1) (pe_glob (v := .int (2)) rfl T.gBORDER ⟨_, rfl⟩)) (pa_cons (pe_op op_sub (pv 2) (pe_glob (v := .int (10)) rfl T.gTITLE_BAR ⟨_, rfl⟩)) (pa_cons (pe_op op_add (pv 3) (pe_op op_mul pe_int (pe_glob (v := .int (2)) rfl T.gBORDER ⟨_, rfl⟩))) (pa_cons (pe_op op_add (pe_op op_add (pv 4) (pe_glob (v := .int (10)) rfl T.gTITLE_BAR ⟨_, rfl⟩)) (pe_glob (v := .int (2)) rfl T.gBORDER ⟨_, rfl⟩)) pa_nil)))))))), ?_⟩
    walk_at "go"
    exact q _ _ (by walk_at "sm") upd_same
/-! ### frames that are caught, moved, resized -/
structure AreasAt (K : PySem.W.Frag) (H : Hp) (p : Addr) (as : List Addr) (rs : List Rc) : Prop where
  ls : SqL K H p (as.map V.ref)
  len : as.length = rs.length
  each : ∀ (i : Nat) (a : Addr) (r : Rc), as[i]? = some a → rs[i]? = some r → SqT K H a (rv r)
theorem AreasAt.to {K : PySem.W.Frag} {H H' : Hp} {p : Addr} {as : List Addr} {rs : List Rc} (h : AreasAt K H p as rs) (s : Same H H') : AreasAt K H' p as rs := ⟨s.seq h.ls, h.len, fun i a r e1 e2 => s.sqt (h.each i a r e1 e2)⟩
def caughtBy (f a : Rc) : Bool := decide (16 ≤ (ovR a ⟨f.x, f.y, f.w, 10⟩).w) && decide ((ovR a ⟨f.x, f.y, f.w, 10⟩).h = 10)
def caughtR (rs : List Rc) (f : Rc) : Bool := rs.any (caughtBy f)
def sp_can_be_caught (K : PySem.W.Frag) : Sp := fun vs H Q _ => ∃ (p pf : Addr) (as : List Addr) (rs : List Rc) (f : Rc), vs = [.ref p, .ref pf] ∧ AreasAt K H p as rs ∧ SqT K H pf (rv f) ∧ ∀ H', Same H H' → Q (.bl (caughtR rs f)) H'
theorem any_take {α : Type} (f : α → Bool) {xs : List α} {i : Nat} {x : α} (h : xs[i]? = some x) : (xs.take (i + 1)).any f = ((xs.take i).any f || f x) := by
  obtain ⟨hi, e⟩ := List.getElem?_eq_some_iff.mp h
  rw [List.take_succ_eq_append_getElem hi, List.any_append, e]
  simp
theorem any_of_at {α : Type} (f : α → Bool) {xs : List α} {i : Nat} {x : α} (h : xs[i]? = some x) (hx : f x = true) : xs.any f = true :=
  List.any_eq_true.mpr ⟨x, List.mem_of_getElem? h, hx⟩
theorem sc_can_be_caught : FnScope ["areas", "frame", "x", "y", "width", "_", "area", "columns", "rows"] ["areas", "frame"] (defScope s_can_be_caught) := ⟨rfl, rfl, rfl, by decide +kernel, rfl, by decide +kernel, by decide +kernel⟩
theorem ok_can_be_caught (T : Txt K mg A) : FnOk P w K mg base CX0 3 A.fcan_be_caught A.dcan_be_caught ["areas", "frame"] (sp_can_be_caught K) := by
  refine T.Fcan_be_caught.ok sc_can_be_caught (fun vs H Q E h => ?_) (fun cdv Ar outer s H vs Q E hr h => ?_)
  · obtain ⟨_, _, _, _, _, rfl, _⟩ := h
    rfl
  · obtain ⟨p, pf, as, rs, f, rfl, hA, hf, q⟩ := h
    refine ⟨_, (pss_cons (ps_asg (pv 1) (pg_tup rfl (pgs_cons (pg_name (i := 2) sc_can_be_caught.nd rfl (Or.inl rfl)) (pgs_cons (pg_name (i := 3) sc_can_be_caught.nd rfl (Or.inl rfl)) (pgs_cons (pg_name (i := 4) sc_can_be_caught.nd rfl (Or.inl rfl)) (pgs_cons (pg_name (i := 5) sc_can_be_caught.nd rfl (Or.inl rfl)) pgs_nil))))))
      (pss_cons (ps_for PassesOwn.never rfl (pi_list (pv 0)) (pg_name (i := 6) sc_can_be_caught.nd rfl (Or.inl rfl))
      (pss_cons (ps_asg (pe_call (ok_overlap T) (hr.mono (by decide)) rfl T.goverlap T.koverlap T.boverlap .nil pass0 (pa_cons (pv 6) (pa_cons (pe_tup (pa_cons (pv 2) (pa_cons (pv 3) (pa_cons (pv 4) (pa_cons (pe_glob (v := .int (10)) rfl T.gTITLE_BAR ⟨_, rfl⟩) pa_nil))))) pa_nil))) (pg_tup rfl (pgs_cons (pg_name (i := 5) sc_can_be_caught.nd rfl (Or.inl rfl)) (pgs_cons (pg_name (i := 5) sc_can_be_caught.nd rfl (Or.inl rfl)) (pgs_cons (pg_name (i := 7) sc_can_be_caught.nd rfl (Or.inl rfl)) (pgs_cons (pg_name (i := 8) sc_can_be_caught.nd rfl (Or.inl rfl)) pgs_nil))))))
      (pss_one (ps_if (PW.pt (pw_and (pt_cmpR op_ge (pv 7) (pe_glob (v := .int (16)) rfl T.gCAUGHT_COLUMNS ⟨_, rfl⟩) (nomark _)) (pw_and1 (pt_cmpR op_eq (pv 8) (pe_glob (v := .int (10)) rfl T.gTITLE_BAR ⟨_, rfl⟩) (nomark _)))))
      (pss_one (ps_ret pe_bl))
      pss_nil))))
      (pss_one (ps_ret pe_bl)))), ?_⟩
    walk_at "go"
    refine ⟨⟨_, hA.ls⟩, for_list (K := K) (a := p) (xs := as.map V.ref) (fun j σ H' => ∃ v6 v7 v8 v9 : Option V, σ = [some (.ref p), some (.ref pf), some (.int f.x), some (.int f.y), some (.int f.w), v6, v7, v8, v9] ∧ Same H H' ∧ (rs.take j).any (caughtBy f) = false) ⟨_, _, _, _, rfl, Same.refl _, rfl⟩ (fun j σ H' _ ⟨_, _, _, _, _, s, _⟩ => s.seq hA.ls) ?_ ?_⟩
    · rintro j x σ H' hx ⟨v6, v7, v8, v9, rfl, s1, hno⟩
      rw [List.getElem?_map] at hx
      obtain ⟨ax, hax, rfl⟩ : ∃ ax, as[j]? = some ax ∧ x = .ref ax := by
        cases e : as[j]? with
        | none => rw [e] at hx; cases hx
        | some ax => rw [e] at hx; injection hx with hx; exact ⟨ax, rfl, hx.symm⟩
      have hj : j < rs.length := by rw [← hA.len]; exact (List.getElem?_eq_some_iff.mp hax).1
      have hr := List.getElem?_eq_getElem hj
      have hra := s1.sqt (hA.each j ax _ hax hr)
      generalize rs[j] = r at hr hra
      walk_at "go"
      refine ⟨_, _, r, ⟨f.x, f.y, f.w, 10⟩, rfl, by walk_at "sq", SqT.of upd_same, ?_⟩
      walk_at "go"
      have stay : caughtBy f r = false → (rs.take (j + 1)).any (caughtBy f) = false := fun h => by rw [any_take _ hr, hno, h]; rfl
      refine iteP (fun h1 => ?_) (fun h1 => ?_)
      · walk_at "go"
        refine iteEq (fun h2 => ?_) (fun h2 => ?_)
        · walk_at "go"
          have : caughtR rs f = true := any_of_at _ hr (by unfold caughtBy; rw [decide_eq_true h1, decide_eq_true h2]; rfl)
          rw [this] at q
          exact q _ (by walk_at "sm")
        · exact ⟨_, _, _, _, rfl, by walk_at "sm", stay (by unfold caughtBy; rw [decide_eq_false h2]; exact Bool.and_false _)⟩
      · exact ⟨_, _, _, _, rfl, by walk_at "sm", stay (by unfold caughtBy; rw [decide_eq_false h1]; exact Bool.false_and _)⟩
    · rintro σ H' ⟨v6, v7, v8, v9, rfl, s1, hno⟩
      rw [List.length_map, hA.len, List.take_length] at hno
      walk_at "go"
      have : caughtR rs f = false := hno
      rw [this] at q
      exact q _ s1
def btn (n : Int) : Str := if n < 10 then "close" else if n < 2 * 10 then "maximize" else if n < 3 * 10 then "minimize" else "move"
def sp__button_at (K : PySem.W.Frag) : Sp := fun vs H Q _ => ∃ n : Int, vs = [.int n] ∧ Q (.str (btn n)) H
theorem sc__button_at : FnScope ["from_right"] ["from_right"] (defScope s__button_at) := ⟨rfl, rfl, rfl, by decide +kernel, rfl, by decide +kernel, by decide +kernel⟩
theorem ok__button_at (T : Txt K mg A) : FnOk P w K mg base CX0 1 A.f_button_at A.d_button_at ["from_right"] (sp__button_at K) := by
  refine T.F_button_at.ok sc__button_at (fun vs H Q E h => ?_) (fun cdv Ar outer s H vs Q E hr h => ?_)
  · obtain ⟨_, rfl, _⟩ := h
    rfl
  · obtain ⟨n, rfl, q⟩ := h
    refine ⟨_, (pss_cons (ps_if (pt_cmpR op_lt (pv 0) (pe_glob (v := .int (10)) rfl T.gGRIP ⟨_, rfl⟩) (nomark _))
      (pss_one (ps_ret pe_str))
      pss_nil)
      (pss_cons (ps_if (pt_cmpR op_lt (pv 0) (pe_op op_mul pe_int (pe_glob (v := .int (10)) rfl T.gGRIP ⟨_, rfl⟩)) (nomark _))
      (pss_one (ps_ret pe_str))
      pss_nil)
      (pss_cons (ps_if (pt_cmpR op_lt (pv 0) (pe_op op_mul pe_int (pe_glob (v := .int (10)) rfl T.gGRIP ⟨_, rfl⟩)) (nomark _))
      (pss_one (ps_ret pe_str))
      pss_nil)
      (pss_one (ps_ret pe_str))))), ?_⟩
    unfold btn at q
    walk_at "go"
    refine iteP (fun h => ?_) (fun h => ?_)
    · rw [if_pos h] at q; walk_at "go"; exact q
    rw [if_neg h] at q
    walk_at "go"
    refine iteP (fun h => ?_) (fun h => ?_)
    · rw [if_pos h] at q; walk_at "go"; exact q
    rw [if_neg h] at q
    walk_at "go"
    refine iteP (fun h => ?_) (fun h => ?_)
    · rw [if_pos h] at q; walk_at "go"; exact q
    rw [if_neg h] at q
    walk_at "go"
    exact q
def sideH (f : Rc) (x : Int) : Int := if x - f.x < 10 then -1 else if f.x + f.w - 1 - x < 10 then 1 else 0
def sideV (f : Rc) (y : Int) : Int := if f.y + f.h - 1 - y < 10 then 1 else 0
def partR (f : Rc) (x y : Int) : List V := if y < f.y + 10 then [.str (btn (f.x + f.w - 1 - x)), .int 0, .int 0] else [.str "resize", .int (sideH f x), .int (sideV f y)]
def sp_part_at (K : PySem.W.Frag) : Sp := fun vs H Q _ => ∃ (p : Addr) (f : Rc) (x y : Int), vs = [.ref p, .int x, .int y] ∧ SqT K H p (rv f) ∧ RetT H Q (partR f x y)
theorem sc_part_at : FnScope ["frame", "x", "y", "left", "top", "width", "height", "from_right", "horizontal", "vertical"] ["frame", "x", "y"] (defScope s_part_at) := ⟨rfl, rfl, rfl, by decide +kernel, rfl, by decide +kernel, by decide +kernel⟩
theorem ok_part_at (T : Txt K mg A) : FnOk P w K mg base CX0 2 A.fpart_at A.dpart_at ["frame", "x", "y"] (sp_part_at K) := by
  refine T.Fpart_at.ok sc_part_at (fun vs H Q E h => ?_) (fun cdv Ar outer s H vs Q E hr h => ?_)
  · obtain ⟨_, _, _, _, rfl, _⟩ := h
    rfl
  · obtain ⟨p, f, x, y, rfl, hf, q⟩ := h
    refine ⟨_, (pss_cons (ps_asg (pv 0) (pg_tup rfl (pgs_cons (pg_name (i := 3) sc_part_at.nd rfl (Or.inl rfl)) (pgs_cons (pg_name (i := 4) sc_part_at.nd rfl (Or.inl rfl)) (pgs_cons (pg_name (i := 5) sc_part_at.nd rfl (Or.inl rfl)) (pgs_cons (pg_name (i := 6) sc_part_at.nd rfl (Or.inl rfl)) pgs_nil))))))
      (pss_cons (ps_set (i := 7) sc_part_at.nd rfl (Or.inl rfl) (pe_op op_sub (pe_op op_sub (pe_op op_add (pv 3) (pv 5)) pe_int) (pv 1)))
      (pss_cons (ps_if (pt_cmpR op_lt (pv 2) (pe_op op_add (pv 4) (pe_glob (v := .int (10)) rfl T.gTITLE_BAR ⟨_, rfl⟩)) (nomark _))
      (pss_one (ps_ret (pe_tup (pa_cons (pe_call (ok__button_at T) (hr.mono (by decide)) rfl T.g_button_at T.k_button_at T.b_button_at .nil pass0 (pa_cons (pv 7) pa_nil)) (pa_cons pe_int (pa_cons pe_int pa_nil))))))
      pss_nil)
      (pss_cons (ps_set (i := 8) sc_part_at.nd rfl (Or.inl rfl) pe_int)
      (C8.pss_cut (ps_if (pt_cmpR op_lt (pe_op op_sub (pv 1) (pv 3)) (pe_glob (v := .int (10)) rfl T.gGRIP ⟨_, rfl⟩) (nomark _))
      (pss_one (ps_set (i := 8) sc_part_at.nd rfl (Or.inl rfl) (pe_un un_neg pe_int)))
      (pss_one (ps_if (pt_cmpR op_lt (pv 7) (pe_glob (v := .int (10)) rfl T.gGRIP ⟨_, rfl⟩) (nomark _))
      (pss_one (ps_set (i := 8) sc_part_at.nd rfl (Or.inl rfl) pe_int))
      pss_nil)))
      (pss_cons (ps_set (i := 9) sc_part_at.nd rfl (Or.inl rfl) (pe_ifExp (pt_cmpR op_lt (pe_op op_sub (pe_op op_sub (pe_op op_add (pv 4) (pv 6)) pe_int) (pv 2)) (pe_glob (v := .int (10)) rfl T.gGRIP ⟨_, rfl⟩) (nomark _)) pe_int pe_int))
      (pss_one (ps_ret (pe_tup (pa_cons pe_str (pa_cons (pv 8) (pa_cons (pv 9) pa_nil)))))))))))), ?_⟩
    unfold partR at q
    walk_at "go"
    refine iteP (fun h => ?_) (fun h => ?_)
    · rw [if_pos h] at q
      walk_at "go"
      exact q _ _ (by walk_at "sm") upd_same
    rw [if_neg h] at q
    walk_at "go"
    refine ⟨fun σ' H' => σ' = [some (.ref p), some (.int x), some (.int y), some (.int f.x), some (.int f.y), some (.int f.w), some (.int f.h), some (.int (f.x + f.w - 1 - x)), some (.int (sideH f x)), none] ∧ H' = H, ?_, ?_⟩
    · walk_at "go"
      unfold sideH
      refine iteP (fun h => ?_) (fun h => ?_)
      · rw [if_pos h]; walk_at "go"; first | rfl | exact ⟨rfl, rfl⟩
      rw [if_neg h]
      walk_at "go"
      refine iteP (fun h => ?_) (fun h => ?_)
      · rw [if_pos h]; walk_at "go"; first | rfl | exact ⟨rfl, rfl⟩
      · rw [if_neg h]; first | rfl | exact ⟨rfl, rfl⟩
    rintro σ' H' ⟨rfl, rfl⟩
    unfold sideV at q
    walk_at "go"
    refine iteP (fun h => ?_) (fun h => ?_)
    · rw [if_pos h] at q; walk_at "go"; exact q _ _ (by walk_at "sm") upd_same
    · rw [if_neg h] at q; walk_at "go"; exact q _ _ (by walk_at "sm") upd_same
theorem max3_int (i j k : Int) : nuMax3 (.int i) (.int j) (.int k) = some (.int (mx (mx i j) k)) := by
  show (some (if decide (i < j) = true then V.int j else V.int i)).bind (fun m => nuMax2 m (V.int k)) = _
  unfold mx
  by_cases h : i < j
  · rw [if_pos (decide_eq_true h), if_pos (show j > i from h)]
    show some (if decide (j < k) = true then V.int k else V.int j) = _
    by_cases g : j < k
    · rw [if_pos (decide_eq_true g), if_pos (show k > j from g)]
    · rw [if_neg (by rw [decide_eq_false g]; decide), if_neg (show ¬ k > j from g)]
  · rw [if_neg (by rw [decide_eq_false h]; decide), if_neg (show ¬ j > i from h)]
    show some (if decide (i < k) = true then V.int k else V.int i) = _
    by_cases g : i < k
    · rw [if_pos (decide_eq_true g), if_pos (show k > i from g)]
    · rw [if_neg (by rw [decide_eq_false g]; decide), if_neg (show ¬ k > i from g)]
def keptI (ln least largest : Int) : Int := mn (mx (mx (if largest = 0 then ln else mn ln largest) least) 16) 4096
def sp__kept_length (K : PySem.W.Frag) : Sp := fun vs H Q _ => ∃ a b c : Int, vs = [.int a, .int b, .int c] ∧ Q (.int (keptI a b c)) H
theorem sc__kept_length : FnScope ["length", "least", "largest"] ["length", "least", "largest"] (defScope s__kept_length) := ⟨rfl, rfl, rfl, by decide +kernel, rfl, by decide +kernel, by decide +kernel⟩
theorem ok__kept_length (T : Txt K mg A) : FnOk P w K mg base CX0 1 A.f_kept_length A.d_kept_length ["length", "least", "largest"] (sp__kept_length K) := by
  refine T.F_kept_length.ok sc__kept_length (fun vs H Q E h => ?_) (fun cdv Ar outer s H vs Q E hr h => ?_)
  · obtain ⟨_, _, _, rfl, _⟩ := h
    rfl
  · obtain ⟨a, b, c, rfl, q⟩ := h
    refine ⟨_, (C8.pss_cut (ps_if (pt_cmpR op_ne (pv 2) pe_int (nomark _))
      (pss_one (ps_set (i := 0) sc__kept_length.nd rfl (Or.inl rfl) (pe_callB (call_min2 rfl) (by rfl) T.min (by decide +kernel) (pa_cons (pv 0) (pa_cons (pv 2) pa_nil)))))
      pss_nil)
      (pss_one (ps_ret (pe_callB (call_min2 rfl) (by rfl) T.min (by decide +kernel) (pa_cons (pe_callB (call_max3Nu rfl) (by rfl) T.max (by decide +kernel) (pa_cons (pv 0) (pa_cons (pv 1) (pa_cons (pe_glob (v := .int (16)) rfl T.gLEAST_SIDE ⟨_, rfl⟩) pa_nil)))) (pa_cons (pe_glob (v := .int (4096)) rfl T.gLONGEST_SIDE ⟨_, rfl⟩) pa_nil)))))), ?_⟩
    refine ⟨fun σ' H' => σ' = [some (.int (if c = 0 then a else mn a c)), some (.int b), some (.int c)] ∧ H' = H, ?_, ?_⟩
    · walk_at "go"
      refine iteNe (fun h => ?_) (fun h => ?_)
      · rw [if_neg h]; walk_at "go"; first | rfl | exact ⟨rfl, rfl⟩
      · rw [if_pos h]; first | rfl | exact ⟨rfl, rfl⟩
    rintro σ' H' ⟨rfl, rfl⟩
    unfold keptI at q
    generalize (if c = 0 then a else mn a c) = l at q ⊢
    refine ⟨_, rfl, _, rfl, _, _, _, _, rfl, max3_int _ _ _, ?_⟩
    walk_at "go"
    exact q
def shR (f : Rc) (a b : Int) : Rc := ⟨f.x + a, f.y + b, f.w, f.h⟩
def movR (rs : List Rc) (f : Rc) (dx dy : Int) : Rc :=
  if caughtR rs f = false ∨ caughtR rs (shR f dx dy) = true then shR f dx dy else if caughtR rs (shR f dx 0) = true then shR f dx 0 else if caughtR rs (shR f 0 dy) = true then shR f 0 dy else f
def sp_moved_frame (K : PySem.W.Frag) : Sp := fun vs H Q _ => ∃ (p pf : Addr) (as : List Addr) (rs : List Rc) (f : Rc) (dx dy : Int), vs = [.ref p, .ref pf, .int dx, .int dy] ∧ AreasAt K H p as rs ∧ SqT K H pf (rv f) ∧ ∀ p H', Same H H' → SqT K H' p (rv (movR rs f dx dy)) → Q (.ref p) H'
theorem sc_moved_frame : FnScope ["areas", "frame", "dx", "dy", "x", "y", "width", "height", "way_x", "way_y", "moved"] ["areas", "frame", "dx", "dy"] (defScope s_moved_frame) := ⟨rfl, rfl, rfl, by decide +kernel, rfl, by decide +kernel, by decide +kernel⟩
theorem ok_moved_frame (T : Txt K mg A) : FnOk P w K mg base CX0 4 A.fmoved_frame A.dmoved_frame ["areas", "frame", "dx", "dy"] (sp_moved_frame K) := by
  refine T.Fmoved_frame.ok sc_moved_frame (fun vs H Q E h => ?_) (fun cdv Ar outer s H vs Q E hr h => ?_)
  · obtain ⟨_, _, _, _, _, _, _, rfl, _⟩ := h
    rfl
  · obtain ⟨p, pf, as, rs, f, dx, dy, rfl, hA, hf, q⟩ := h
    refine ⟨_, (pss_cons (ps_asg (pv 1) (pg_tup rfl (pgs_cons (pg_name (i := 4) sc_moved_frame.nd rfl (Or.inl rfl)) (pgs_cons (pg_name (i := 5) sc_moved_frame.nd rfl (Or.inl rfl)) (pgs_cons (pg_name (i := 6) sc_moved_frame.nd rfl (Or.inl rfl)) (pgs_cons (pg_name (i := 7) sc_moved_frame.nd rfl (Or.inl rfl)) pgs_nil))))))
      (pss_cons (ps_if (pt_not (pt_val (pe_call (ok_can_be_caught T) (hr.mono (by decide)) rfl T.gcan_be_caught T.kcan_be_caught T.bcan_be_caught .nil pass0 (pa_cons (pv 0) (pa_cons (pv 1) pa_nil)))))
      (pss_one (ps_ret (pe_tup (pa_cons (pe_op op_add (pv 4) (pv 2)) (pa_cons (pe_op op_add (pv 5) (pv 3)) (pa_cons (pv 6) (pa_cons (pv 7) pa_nil)))))))
      pss_nil)
      (pss_cons (ps_for PassesOwn.never rfl (pi_tup (pe_tup (pa_cons (pe_tup (pa_cons (pv 2) (pa_cons (pv 3) pa_nil))) (pa_cons (pe_tup (pa_cons (pv 2) (pa_cons pe_int pa_nil))) (pa_cons (pe_tup (pa_cons pe_int (pa_cons (pv 3) pa_nil))) pa_nil))))) (pg_tup rfl (pgs_cons (pg_name (i := 8) sc_moved_frame.nd rfl (Or.inl rfl)) (pgs_cons (pg_name (i := 9) sc_moved_frame.nd rfl (Or.inl rfl)) pgs_nil)))
      (pss_cons (ps_set (i := 10) sc_moved_frame.nd rfl (Or.inl rfl) (pe_tup (pa_cons (pe_op op_add (pv 4) (pv 8)) (pa_cons (pe_op op_add (pv 5) (pv 9)) (pa_cons (pv 6) (pa_cons (pv 7) pa_nil))))))
      (pss_one (ps_if (pt_val (pe_call (ok_can_be_caught T) (hr.mono (by decide)) rfl T.gcan_be_caught T.kcan_be_caught T.bcan_be_caught .nil pass0 (pa_cons (pv 0) (pa_cons (pv 10) pa_nil))))
      (pss_one (ps_ret (pv 10)))
      pss_nil))))
      (pss_one (ps_ret (pv 1)))))), ?_⟩
    unfold movR at q
    walk_at "go"
    refine ⟨_, _, as, rs, f, rfl, hA, hf, fun H2 s2 => ?_⟩
    cases hc : caughtR rs f with
    | false =>
      rw [if_pos (.inl hc)] at q
      walk_at "go"
      exact q _ _ (by walk_at "sm") (SqT.of upd_same)
    | true =>
      walk_at "go"
      rename_i t1 h1 t2 h2 t3 h3 t4 h4
      have e1 : SqT K _ t1 [.int dx, .int dy] := (same_upd (o := .tup [.ref t1, .ref t2, .ref t3]) h4).sqt ((same_upd (o := .tup [.int 0, .int dy]) h3).sqt ((same_upd (o := .tup [.int dx, .int 0]) h2).sqt (SqT.of (upd_same (H := H2) (a := t1) (o := .tup [.int dx, .int dy])))))
      have e2 : SqT K _ t2 [.int dx, .int 0] := (same_upd (o := .tup [.ref t1, .ref t2, .ref t3]) h4).sqt ((same_upd (o := .tup [.int 0, .int dy]) h3).sqt (SqT.of (upd_same (H := upd H2 t1 (.tup [.int dx, .int dy])) (a := t2) (o := .tup [.int dx, .int 0]))))
      have e3 : SqT K _ t3 [.int 0, .int dy] := (same_upd (o := .tup [.ref t1, .ref t2, .ref t3]) h4).sqt (SqT.of (upd_same (H := upd (upd H2 t1 (.tup [.int dx, .int dy])) t2 (.tup [.int dx, .int 0])) (a := t3) (o := .tup [.int 0, .int dy])))
      have e4 : (upd (upd (upd (upd H2 t1 (.tup [.int dx, .int dy])) t2 (.tup [.int dx, .int 0])) t3 (.tup [.int 0, .int dy])) t4 (.tup [.ref t1, .ref t2, .ref t3])) t4 = _ := upd_same
      have s9 : Same H (upd (upd (upd (upd H2 t1 (.tup [.int dx, .int dy])) t2 (.tup [.int dx, .int 0])) t3 (.tup [.int 0, .int dy])) t4 (.tup [.ref t1, .ref t2, .ref t3])) := by walk_at "sm"
      generalize (upd (upd (upd (upd H2 t1 (.tup [.int dx, .int dy])) t2 (.tup [.int dx, .int 0])) t3 (.tup [.int 0, .int dy])) t4 (.tup [.ref t1, .ref t2, .ref t3])) = H9 at e1 e2 e3 e4 s9 ⊢
      clear h1 h2 h3 h4 s2
      refine ⟨⟨_, SqT.of e4⟩, for_tup (K := K) (a := t4) (xs := [.ref t1, .ref t2, .ref t3]) (fun j σ H' => ∃ v8 v9 v10 : Option V, σ = [some (.ref p), some (.ref pf), some (.int dx), some (.int dy), some (.int f.x), some (.int f.y), some (.int f.w), some (.int f.h), v8, v9, v10] ∧ Same H9 H' ∧ (0 < j → caughtR rs (shR f dx dy) = false) ∧ (1 < j → caughtR rs (shR f dx 0) = false) ∧ (2 < j → caughtR rs (shR f 0 dy) = false)) ⟨_, _, _, rfl, Same.refl _, by omega, by omega, by omega⟩ (fun j σ H' _ ⟨_, _, _, _, s, _⟩ => SqT.of (s _ _ e4)) ?_ ?_⟩
      · rintro j x σ H' hx ⟨v8, v9, v10, rfl, s10, g1, g2, g3⟩
        have hl := (List.getElem?_eq_some_iff.mp hx).1
        simp only [List.length_cons, List.length_nil] at hl
        obtain ⟨t, da, db, rfl, et, hy, hn⟩ : ∃ (t : Addr) (da db : Int), x = .ref t ∧ SqT K H' t [.int da, .int db] ∧ (caughtR rs (shR f da db) = true → movR rs f dx dy = shR f da db) ∧ (caughtR rs (shR f da db) = false → (0 < j + 1 → caughtR rs (shR f dx dy) = false) ∧ (1 < j + 1 → caughtR rs (shR f dx 0) = false) ∧ (2 < j + 1 → caughtR rs (shR f 0 dy) = false)) := by
          rcases (by omega : j = 0 ∨ j = 1 ∨ j = 2) with rfl | rfl | rfl
          · injection hx with hx
            exact ⟨t1, dx, dy, hx.symm, s10.sqt e1, fun h => by unfold movR; rw [if_pos (.inr h)], fun h => ⟨fun _ => h, by omega, by omega⟩⟩
          · injection hx with hx
            have q1 := g1 (by decide)
            refine ⟨t2, dx, 0, hx.symm, s10.sqt e2, fun h => ?_, fun h => ⟨fun _ => q1, fun _ => h, by omega⟩⟩
            unfold movR; rw [hc, q1, if_neg (by decide), if_pos h]
          · injection hx with hx
            have q1 := g1 (by decide)
            have q2 := g2 (by decide)
            refine ⟨t3, 0, dy, hx.symm, s10.sqt e3, fun h => ?_, fun h => ⟨fun _ => q1, fun _ => q2, fun _ => h⟩⟩
            unfold movR; rw [hc, q1, q2, if_neg (by decide), if_neg (by decide), if_pos h]
        walk_at "go"
        refine ⟨_, _, as, rs, shR f da db, rfl, (hA.to (s9.trans s10)).to (same_upd (by assumption)), SqT.of upd_same, fun H11 s11 => ?_⟩
        cases hcc : caughtR rs (shR f da db) with
        | true =>
          walk_at "go"
          have em := hy hcc
          unfold movR at em
          rw [em] at q
          exact q _ _ (by walk_at "sm") (SqT.of (s11 _ _ upd_same))
        | false =>
          walk_at "go"
          obtain ⟨n1, n2, n3⟩ := hn hcc
          first
            | exact ⟨_, _, _, rfl, s10.trans ((same_upd (by assumption)).trans s11), n1, n2, n3⟩
            | exact ⟨_, rfl, s10.trans ((same_upd (by assumption)).trans s11), n1, n2, n3⟩
            | exact ⟨s10.trans ((same_upd (by assumption)).trans s11), n1, n2, n3⟩
      · rintro σ H' ⟨v8, v9, v10, rfl, s10, g1, g2, g3⟩
        rw [hc, g1 (by simp), g2 (by simp), g3 (by simp), if_neg (by decide), if_neg (by decide), if_neg (by decide)] at q
        walk_at "go"
        exact q _ _ (s9.trans s10) ((s9.trans s10).sqt hf)
def rszR (f : Rc) (hz vt dx dy l0 l1 g0 g1 : Int) : Rc :=
  let wd := if hz = 0 then (insR f).w else keptI ((insR f).w + hz * dx) l0 g0
  let ht := if 0 < vt then keptI ((insR f).h + dy) l1 g1 else (insR f).h
  frmR ⟨if hz < 0 then (insR f).x + (insR f).w - wd else (insR f).x, (insR f).y, wd, ht⟩
def sp_resized_frame (K : PySem.W.Frag) : Sp := fun vs H Q _ => ∃ (pf pp pl pg : Addr) (f : Rc) (nm : V) (hz vt dx dy l0 l1 g0 g1 : Int), vs = [.ref pf, .ref pp, .int dx, .int dy, .ref pl, .ref pg] ∧ SqT K H pf (rv f) ∧ SqT K H pp [nm, .int hz, .int vt] ∧ SqT K H pl [.int l0, .int l1] ∧ SqT K H pg [.int g0, .int g1] ∧ -1 ≤ hz ∧ hz ≤ 1 ∧ RetT H Q (rv (rszR f hz vt dx dy l0 l1 g0 g1))
theorem sc_resized_frame : FnScope ["frame", "part", "dx", "dy", "least", "largest", "x", "y", "width", "height", "_", "horizontal", "vertical", "right"] ["frame", "part", "dx", "dy", "least", "largest"] (defScope s_resized_frame) := ⟨rfl, rfl, rfl, by decide +kernel, rfl, by decide +kernel, by decide +kernel⟩
theorem ok_resized_frame (T : Txt K mg A) : FnOk P w K mg base CX0 2 A.fresized_frame A.dresized_frame ["frame", "part", "dx", "dy", "least", "largest"] (sp_resized_frame K) := by
  refine T.Fresized_frame.ok sc_resized_frame (fun vs H Q E h => ?_) (fun cdv Ar outer s H vs Q E hr h => ?_)
  · obtain ⟨_, _, _, _, _, _, _, _, _, _, _, _, _, _, rfl, _⟩ := h
    rfl
  · obtain ⟨pf, pp, pl, pg, f, nm, hz, vt, dx, dy, l0, l1, g0, g1, rfl, hf, hp, hl, hg, hz1, hz2, q⟩ := h
    refine ⟨_, (pss_cons (ps_asg (pe_call (ok_inside_of T) (hr.mono (by decide)) rfl T.ginside_of T.kinside_of T.binside_of .nil pass0 (pa_cons (pv 0) pa_nil)) (pg_tup rfl (pgs_cons (pg_name (i := 6) sc_resized_frame.nd rfl (Or.inl rfl)) (pgs_cons (pg_name (i := 7) sc_resized_frame.nd rfl (Or.inl rfl)) (pgs_cons (pg_name (i := 8) sc_resized_frame.nd rfl (Or.inl rfl)) (pgs_cons (pg_name (i := 9) sc_resized_frame.nd rfl (Or.inl rfl)) pgs_nil))))))
      (pss_cons (ps_asg (pv 1) (pg_tup rfl (pgs_cons (pg_name (i := 10) sc_resized_frame.nd rfl (Or.inl rfl)) (pgs_cons (pg_name (i := 11) sc_resized_frame.nd rfl (Or.inl rfl)) (pgs_cons (pg_name (i := 12) sc_resized_frame.nd rfl (Or.inl rfl)) pgs_nil)))))
      (C8.pss_cut (ps_set (i := 13) sc_resized_frame.nd rfl (Or.inl rfl) (pe_op op_add (pv 6) (pv 8)))
      (C8.pss_cut (ps_if (pt_cmpR op_ne (pv 11) pe_int (nomark _))
      (pss_one (ps_set (i := 8) sc_resized_frame.nd rfl (Or.inl rfl) (pe_call (ok__kept_length T) (hr.mono (by decide)) rfl T.g_kept_length T.k_kept_length T.b_kept_length .nil pass0 (pa_cons (pe_op op_add (pv 8) (pe_op op_mul (pv 11) (pv 2))) (pa_cons (pe_ix (r := rIxT K) ix_tup (pv 4) pe_int (fun _ _ => rfl)) (pa_cons (pe_ix (r := rIxT K) ix_tup (pv 5) pe_int (fun _ _ => rfl)) pa_nil))))))
      pss_nil)
      (C8.pss_cut (ps_if (pt_cmpR op_lt (pv 11) pe_int (nomark _))
      (pss_one (ps_set (i := 6) sc_resized_frame.nd rfl (Or.inl rfl) (pe_op op_sub (pv 13) (pv 8))))
      pss_nil)
      (C8.pss_cut (ps_if (pt_cmpR op_gt (pv 12) pe_int (nomark _))
      (pss_one (ps_set (i := 9) sc_resized_frame.nd rfl (Or.inl rfl) (pe_call (ok__kept_length T) (hr.mono (by decide)) rfl T.g_kept_length T.k_kept_length T.b_kept_length .nil pass0 (pa_cons (pe_op op_add (pv 9) (pv 3)) (pa_cons (pe_ix (r := rIxT K) ix_tup (pv 4) pe_int (fun _ _ => rfl)) (pa_cons (pe_ix (r := rIxT K) ix_tup (pv 5) pe_int (fun _ _ => rfl)) pa_nil))))))
      pss_nil)
      (pss_one (ps_ret (pe_call (ok_frame_of T) (hr.mono (by decide)) rfl T.gframe_of T.kframe_of T.bframe_of .nil pass0 (pa_cons (pe_tup (pa_cons (pv 6) (pa_cons (pv 7) (pa_cons (pv 8) (pa_cons (pv 9) pa_nil))))) pa_nil)))))))))), ?_⟩
    unfold rszR at q
    dsimp only at q
    walk_at "go"
    refine ⟨_, f, rfl, hf, ?_⟩
    walk_at "go"
    generalize hX : (insR f).x = X at q ⊢
    generalize hY : (insR f).y = Y at q ⊢
    generalize hW : (insR f).w = W at q ⊢
    generalize hT : (insR f).h = Z at q ⊢
    refine ⟨fun σ' H' => σ' = [some (.ref pf), some (.ref pp), some (.int dx), some (.int dy), some (.ref pl), some (.ref pg), some (.int X), some (.int Y), some (.int W), some (.int Z), some nm, some (.int hz), some (.int vt), some (.int (X + W))] ∧ Same H H', ?_, ?_⟩
    · walk_at "go"
      first | exact ⟨rfl, by walk_at "sm"⟩ | walk_at "sm"
    rintro σ' H1 ⟨rfl, s1⟩
    have hl1 := s1.sqt hl
    have hg1 := s1.sqt hg
    refine ⟨fun σ' H' => σ' = [some (.ref pf), some (.ref pp), some (.int dx), some (.int dy), some (.ref pl), some (.ref pg), some (.int X), some (.int Y), some (.int (if hz = 0 then W else keptI (W + hz * dx) l0 g0)), some (.int Z), some nm, some (.int hz), some (.int vt), some (.int (X + W))] ∧ H' = H1, ?_, ?_⟩
    · walk_at "go"
      refine iteNe (fun h => ?_) (fun h => ?_)
      · rw [if_neg h]; walk_at "go"
        refine ⟨(Or.inl ⟨by omega, by omega⟩ : CMul _ _), ?_⟩
        walk_at "go"
        first | rfl | exact ⟨rfl, rfl⟩
      · rw [if_pos h]; first | rfl | exact ⟨rfl, rfl⟩
    rintro σ' H2 ⟨rfl, rfl⟩
    generalize (if hz = 0 then W else keptI (W + hz * dx) l0 g0) = wd at q ⊢
    refine ⟨fun σ' H' => σ' = [some (.ref pf), some (.ref pp), some (.int dx), some (.int dy), some (.ref pl), some (.ref pg), some (.int (if hz < 0 then X + W - wd else X)), some (.int Y), some (.int wd), some (.int Z), some nm, some (.int hz), some (.int vt), some (.int (X + W))] ∧ H' = H2, ?_, ?_⟩
    · walk_at "go"
      refine iteP (fun h => ?_) (fun h => ?_)
      · rw [if_pos h]; walk_at "go"; first | rfl | exact ⟨rfl, rfl⟩
      · rw [if_neg h]; first | rfl | exact ⟨rfl, rfl⟩
    rintro σ' H3 ⟨rfl, rfl⟩
    generalize (if hz < 0 then X + W - wd else X) = x9 at q ⊢
    refine ⟨fun σ' H' => σ' = [some (.ref pf), some (.ref pp), some (.int dx), some (.int dy), some (.ref pl), some (.ref pg), some (.int x9), some (.int Y), some (.int wd), some (.int (if 0 < vt then keptI (Z + dy) l1 g1 else Z)), some nm, some (.int hz), some (.int vt), some (.int (X + W))] ∧ H' = H3, ?_, ?_⟩
    · walk_at "go"
      refine iteP (fun h => ?_) (fun h => ?_)
      · rw [if_pos h]; walk_at "go"; first | rfl | exact ⟨rfl, rfl⟩
      · rw [if_neg h]; first | rfl | exact ⟨rfl, rfl⟩
    rintro σ' H4 ⟨rfl, rfl⟩
    generalize (if 0 < vt then keptI (Z + dy) l1 g1 else Z) = ht at q ⊢
    walk_at "go"
    refine ⟨_, ⟨x9, Y, wd, ht⟩, rfl, SqT.of upd_same, ?_⟩
    walk_at "go"
    exact q _ _ (by walk_at "sm") (by assumption)
def area1 (row : Int) : Rc := ⟨row % 40 - 20, row / 40 % 40 - 20, 20 + row / 1600 % 80, 12 + row / 9 % 80⟩
def area2 (row : Int) : Rc := ⟨(area1 row).x + (area1 row).w, (area1 row).y + row / 5 % 9, 20 + row / 11 % 50, 30⟩
def areasR (row : Int) : List Rc := if row / 3 % 2 = 0 then [area1 row] else [area1 row, area2 row]
theorem areas1 {K : PySem.W.Frag} {H : Hp} {p a : Addr} {r : Rc} (h : SqL K H p [.ref a]) (h1 : SqT K H a (rv r)) : AreasAt K H p [a] [r] :=
  ⟨h, rfl, fun i a' r' e1 e2 => by
    match i, e1, e2 with
    | 0, e1, e2 => cases e1; cases e2; exact h1⟩
theorem areas2 {K : PySem.W.Frag} {H : Hp} {p a b : Addr} {r t : Rc} (h : SqL K H p [.ref a, .ref b]) (h1 : SqT K H a (rv r)) (h2 : SqT K H b (rv t)) : AreasAt K H p [a, b] [r, t] :=
  ⟨h, rfl, fun i a' r' e1 e2 => by
    match i, e1, e2 with
    | 0, e1, e2 => cases e1; cases e2; exact h1
    | 1, e1, e2 => cases e1; cases e2; exact h2⟩
def sp__law_areas (K : PySem.W.Frag) : Sp := fun vs H Q _ => ∃ row : Int, vs = [.int row] ∧ ∀ p as H', Same H H' → AreasAt K H' p as (areasR row) → Q (.ref p) H'
theorem sc__law_areas : FnScope ["row", "first"] ["row"] (defScope s__law_areas) := ⟨rfl, rfl, rfl, by decide +kernel, rfl, by decide +kernel, by decide +kernel⟩
theorem ok__law_areas (T : Txt K mg A) : FnOk P w K mg base CX0 1 A.f_law_areas A.d_law_areas ["row"] (sp__law_areas K) := by
  refine T.F_law_areas.ok sc__law_areas (fun vs H Q E h => ?_) (fun cdv Ar outer s H vs Q E hr h => ?_)
  · obtain ⟨_, rfl, _⟩ := h
    rfl
  · obtain ⟨row, rfl, q⟩ := h
    refine ⟨_, (pss_cons (ps_set (i := 1) sc__law_areas.nd rfl (Or.inl rfl) (pe_tup (pa_cons (pe_op op_sub (pe_op op_mod (pe_callTy call_int1 (by rfl) T.int (by decide +kernel) (pa_cons (pv 0) pa_nil)) pe_int) pe_int) (pa_cons (pe_op op_sub (pe_op op_mod (pe_callTy call_int1 (by rfl) T.int (by decide +kernel) (pa_cons (pe_op op_fdiv (pv 0) pe_int) pa_nil)) pe_int) pe_int) (pa_cons (pe_op op_add pe_int (pe_op op_mod (pe_callTy call_int1 (by rfl) T.int (by decide +kernel) (pa_cons (pe_op op_fdiv (pv 0) pe_int) pa_nil)) pe_int)) (pa_cons (pe_op op_add pe_int (pe_op op_mod (pe_callTy call_int1 (by rfl) T.int (by decide +kernel) (pa_cons (pe_op op_fdiv (pv 0) pe_int) pa_nil)) pe_int)) pa_nil))))))
      (pss_cons (ps_if (pt_cmpR op_eq (pe_op op_mod (pe_callTy call_int1 (by rfl) T.int (by decide +kernel) (pa_cons (pe_op op_fdiv (pv 0) pe_int) pa_nil)) pe_int) pe_int (nomark _))
      (pss_one (ps_ret (pe_lst (pa_cons (pv 1) pa_nil))))
      pss_nil)
      (pss_one (ps_ret (pe_lst (pa_cons (pv 1) (pa_cons (pe_tup (pa_cons (pe_op op_add (pe_ix (r := rIxT K) ix_tup (pv 1) pe_int (fun _ _ => rfl)) (pe_ix (r := rIxT K) ix_tup (pv 1) pe_int (fun _ _ => rfl))) (pa_cons (pe_op op_add (pe_ix (r := rIxT K) ix_tup (pv 1) pe_int (fun _ _ => rfl)) (pe_op op_mod (pe_callTy call_int1 (by rfl) T.int (by decide +kernel) (pa_cons (pe_op op_fdiv (pv 0) pe_int) pa_nil)) pe_int)) (pa_cons (pe_op op_add pe_int (pe_op op_mod (pe_callTy call_int1 (by rfl) T.int (by decide +kernel) (pa_cons (pe_op op_fdiv (pv 0) pe_int) pa_nil)) pe_int)) (pa_cons pe_int pa_nil))))) pa_nil))))))), ?_⟩
    unfold areasR at q
    walk_at "go"
    rename_i p1 h1
    have e1 : SqT K (upd H p1 (.tup [.int (row % 40 - 20), .int (row / 40 % 40 - 20), .int (20 + row / 1600 % 80), .int (12 + row / 9 % 80)])) p1 (rv (area1 row)) := SqT.of upd_same
    generalize hH : upd H p1 (.tup [.int (row % 40 - 20), .int (row / 40 % 40 - 20), .int (20 + row / 1600 % 80), .int (12 + row / 9 % 80)]) = H1 at e1 ⊢
    have s1 : Same H H1 := by rw [← hH]; exact same_upd h1
    refine iteEq (fun h => ?_) (fun h => ?_)
    · rw [if_pos h] at q
      walk_at "go"
      exact q _ _ _ (by walk_at "sm") (areas1 (SqL.of upd_same) (by walk_at "sq"))
    · rw [if_neg h] at q
      walk_at "go"
      rename_i p2 h2 p3 h3
      exact q p3 [p1, p2] _ (s1.trans ((same_upd h2).trans (same_upd h3))) (areas2 (SqL.of upd_same) ((same_upd h3).sqt ((same_upd h2).sqt e1)) ((same_upd h3).sqt (SqT.of upd_same)))
theorem ov_h (f a : Rc) : (ovR a ⟨f.x, f.y, f.w, 10⟩).h = 10 ↔ a.y ≤ f.y ∧ f.y + 10 ≤ a.y + a.h := by
  show mx (mn (a.y + a.h) (f.y + 10) - mx a.y f.y) 0 = 10 ↔ _
  unfold mx mn
  refine ⟨fun h => ?_, fun h => ?_⟩
  · revert h; repeat' split
    all_goals intro h; omega
  · repeat' split
    all_goals omega
def sp__law_caught (K : PySem.W.Frag) : Sp := fun vs H Q _ => ∃ (p pf : Addr) (as : List Addr) (rs : List Rc) (f : Rc), vs = [.ref p, .ref pf] ∧ AreasAt K H p as rs ∧ SqT K H pf (rv f) ∧ (-100000 ≤ f.x ∧ f.x ≤ 100000 ∧ 0 ≤ f.w ∧ f.w ≤ 1000) ∧ Q (.bl (caughtR rs f)) H
def colN (f a : Rc) (i : Nat) : Int := mx (mn (a.x + a.w) (f.x + i) - mx a.x f.x) 0
theorem col_step (f a : Rc) (i : Nat) : colN f a (i + 1) = if a.x ≤ f.x + (i : Int) ∧ f.x + (i : Int) < a.x + a.w then colN f a i + 1 else colN f a i := by
  unfold colN mx mn
  repeat' split
  all_goals omega
theorem sc__law_caught : FnScope ["areas", "frame", "area", "columns", "x"] ["areas", "frame"] (defScope s__law_caught) := ⟨rfl, rfl, rfl, by decide +kernel, rfl, by decide +kernel, by decide +kernel⟩
theorem ok__law_caught (T : Txt K mg A) : FnOk P w K mg base CX0 1 A.f_law_caught A.d_law_caught ["areas", "frame"] (sp__law_caught K) := by
  refine T.F_law_caught.ok sc__law_caught (fun vs H Q E h => ?_) (fun cdv Ar outer s H vs Q E hr h => ?_)
  · obtain ⟨_, _, _, _, _, rfl, _⟩ := h
    rfl
  · obtain ⟨p, pf, as, rs, f, rfl, hA, hf, hb, q⟩ := h
    refine ⟨_, (pss_cons (ps_for PassesOwn.never rfl (pi_list (pv 0)) (pg_name (i := 2) sc__law_caught.nd rfl (Or.inl rfl))
      (pss_cons (ps_set (i := 3) sc__law_caught.nd rfl (Or.inl rfl) pe_int)
      (pss_cons (ps_for PassesOwn.never rfl (pi_range2 (by rfl) T.range (pa_cons (pe_ix (r := rIxT K) ix_tup (pv 1) pe_int (fun _ _ => rfl)) (pa_cons (pe_op op_add (pe_ix (r := rIxT K) ix_tup (pv 1) pe_int (fun _ _ => rfl)) (pe_ix (r := rIxT K) ix_tup (pv 1) pe_int (fun _ _ => rfl))) pa_nil))) (pg_name (i := 4) sc__law_caught.nd rfl (Or.inl rfl))
      (pss_one (ps_if (pt_chain op_le op_lt (pe_ix (r := rIxT K) ix_tup (pv 2) pe_int (fun _ _ => rfl)) (pv 4) (pe_op op_add (pe_ix (r := rIxT K) ix_tup (pv 2) pe_int (fun _ _ => rfl)) (pe_ix (r := rIxT K) ix_tup (pv 2) pe_int (fun _ _ => rfl))))
      (pss_one (ps_set (i := 3) sc__law_caught.nd rfl (Or.inl rfl) (pe_op op_add (pv 3) pe_int)))
      pss_nil)))
      (pss_one (ps_if (PW.pt (pw_and (pt_cmpR op_ge (pv 3) pe_int (nomark _)) (pw_and (pt_cmpR op_le (pe_ix (r := rIxT K) ix_tup (pv 2) pe_int (fun _ _ => rfl)) (pe_ix (r := rIxT K) ix_tup (pv 1) pe_int (fun _ _ => rfl)) (nomark _)) (pw_and1 (pt_cmpR op_le (pe_op op_add (pe_ix (r := rIxT K) ix_tup (pv 1) pe_int (fun _ _ => rfl)) pe_int) (pe_op op_add (pe_ix (r := rIxT K) ix_tup (pv 2) pe_int (fun _ _ => rfl)) (pe_ix (r := rIxT K) ix_tup (pv 2) pe_int (fun _ _ => rfl))) (nomark _))))))
      (pss_one (ps_ret pe_bl))
      pss_nil)))))
      (pss_one (ps_ret pe_bl))), ?_⟩
    walk_at "go"
    refine ⟨⟨_, hA.ls⟩, for_list (K := K) (a := p) (xs := as.map V.ref) (fun j σ H' => ∃ v2 v3 v4 : Option V, σ = [some (.ref p), some (.ref pf), v2, v3, v4] ∧ H' = H ∧ (rs.take j).any (caughtBy f) = false) ⟨_, _, _, rfl, rfl, rfl⟩ (fun j σ H' _ ⟨_, _, _, _, h, _⟩ => by rw [h]; exact hA.ls) ?_ ?_⟩
    · rintro j x σ H' hx ⟨v2, v3, v4, rfl, rfl, hno⟩
      rw [List.getElem?_map] at hx
      obtain ⟨ax, hax, rfl⟩ : ∃ ax, as[j]? = some ax ∧ x = .ref ax := by
        cases e : as[j]? with
        | none => rw [e] at hx; cases hx
        | some ax => rw [e] at hx; injection hx with hx; exact ⟨ax, rfl, hx.symm⟩
      have hj : j < rs.length := by rw [← hA.len]; exact (List.getElem?_eq_some_iff.mp hax).1
      have hr := List.getElem?_eq_getElem hj
      have hra := hA.each j ax _ hax hr
      generalize rs[j] = r at hr hra
      have stay : caughtBy f r = false → (rs.take (j + 1)).any (caughtBy f) = false := fun h => by rw [any_take _ hr, hno, h]; rfl
      walk_at "go"
      refine ⟨⟨by omega, by omega, by omega, by omega⟩, for_range (lo := f.x) (n := (f.x + f.w - f.x).toNat) (fun i σ H'' => ∃ v4 : Option V, σ = [some (.ref p), some (.ref pf), some (.ref ax), some (.int (colN f r i)), v4] ∧ H'' = H') ?_ ?_ ?_⟩
      · refine ⟨v4, ?_, rfl⟩
        have : colN f r 0 = 0 := by
          unfold colN mx mn
          repeat' split
          all_goals omega
        rw [this]; rfl
      · rintro i σ H'' hi ⟨v4, rfl, rfl⟩
        rw [col_step]
        walk_at "go"
        refine iteP (fun h1 => ?_) (fun h1 => ?_)
        · walk_at "go"
          refine if_b (fun h2 => ?_) (fun h2 => ?_)
          · have h2 := of_decide_eq_true h2
            rw [if_pos ⟨h1, h2⟩]
            walk_at "go"
            first | exact ⟨_, rfl, rfl⟩ | exact rfl
          · have h2 := of_decide_eq_false h2
            rw [if_neg fun z => h2 z.2]
            first | exact ⟨_, rfl, rfl⟩ | exact rfl
        · rw [if_neg fun z => h1 z.1]
          walk_at "go"
          first | exact ⟨_, rfl, rfl⟩ | exact rfl
      · rintro σ H'' ⟨v4, rfl, rfl⟩
        have ew : colN f r (f.x + f.w - f.x).toNat = (ovR r ⟨f.x, f.y, f.w, 10⟩).w := by
          show mx (mn (r.x + r.w) (f.x + ((f.x + f.w - f.x).toNat : Int)) - mx r.x f.x) 0 = mx (mn (r.x + r.w) (f.x + f.w) - mx r.x f.x) 0
          rw [show f.x + ((f.x + f.w - f.x).toNat : Int) = f.x + f.w from by omega]
        rw [ew]
        have eh := ov_h f r
        walk_at "go"
        refine iteP (fun h1 => ?_) (fun h1 => ?_)
        · walk_at "go"
          refine iteP (fun h2 => ?_) (fun h2 => ?_)
          · walk_at "go"
            refine iteP (fun h3 => ?_) (fun h3 => ?_)
            · walk_at "go"
              have : caughtR rs f = true := any_of_at _ hr (by unfold caughtBy; rw [decide_eq_true h1, decide_eq_true (eh.mpr ⟨h2, h3⟩)]; rfl)
              rw [this] at q
              exact q
            · exact ⟨_, _, _, rfl, rfl, stay (by unfold caughtBy; rw [decide_eq_false fun z => h3 (eh.mp z).2]; exact Bool.and_false _)⟩
          · exact ⟨_, _, _, rfl, rfl, stay (by unfold caughtBy; rw [decide_eq_false fun z => h2 (eh.mp z).1]; exact Bool.and_false _)⟩
        · exact ⟨_, _, _, rfl, rfl, stay (by unfold caughtBy; rw [decide_eq_false h1]; exact Bool.false_and _)⟩
    · rintro σ H' ⟨v2, v3, v4, rfl, rfl, hno⟩
      rw [List.length_map, hA.len, List.take_length] at hno
      walk_at "go"
      have : caughtR rs f = false := hno
      rw [this] at q
      exact q
theorem rv_sh (f : Rc) (a b : Int) : rv (shR f a b) = [.int (f.x + a), .int (f.y + b), .int f.w, .int f.h] := rfl
def sp__law_moved (K : PySem.W.Frag) : Sp := fun vs H Q _ => ∃ (p pf : Addr) (as : List Addr) (rs : List Rc) (f : Rc) (dx dy : Int), vs = [.ref p, .ref pf, .int dx, .int dy] ∧ AreasAt K H p as rs ∧ SqT K H pf (rv f) ∧ (-10000 ≤ f.x ∧ f.x ≤ 10000 ∧ 0 ≤ f.w ∧ f.w ≤ 1000 ∧ -10000 ≤ dx ∧ dx ≤ 10000) ∧ ∀ p H', Same H H' → SqT K H' p (rv (movR rs f dx dy)) → Q (.ref p) H'
theorem sc__law_moved : FnScope ["areas", "frame", "dx", "dy", "whole"] ["areas", "frame", "dx", "dy"] (defScope s__law_moved) := ⟨rfl, rfl, rfl, by decide +kernel, rfl, by decide +kernel, by decide +kernel⟩
theorem ok__law_moved (T : Txt K mg A) : FnOk P w K mg base CX0 2 A.f_law_moved A.d_law_moved ["areas", "frame", "dx", "dy"] (sp__law_moved K) := by
  refine T.F_law_moved.ok sc__law_moved (fun vs H Q E h => ?_) (fun cdv Ar outer s H vs Q E hr h => ?_)
  · obtain ⟨_, _, _, _, _, _, _, rfl, _⟩ := h
    rfl
  · obtain ⟨p, pf, as, rs, f, dx, dy, rfl, hA, hf, hb, q⟩ := h
    refine ⟨_, (pss_cons (ps_set (i := 4) sc__law_moved.nd rfl (Or.inl rfl) (pe_op op_catT (pe_tup (pa_cons (pe_op op_add (pe_ix (r := rIxT K) ix_tup (pv 1) pe_int (fun _ _ => rfl)) (pv 2)) (pa_cons (pe_op op_add (pe_ix (r := rIxT K) ix_tup (pv 1) pe_int (fun _ _ => rfl)) (pv 3)) pa_nil))) (pe_slice (r := rSlT K) sl_tup (pv 1) (po_some pe_int) po_none)))
      (pss_cons (ps_if (PW.pt (pw_or (pt_not (pt_val (pe_call (ok__law_caught T) (hr.mono (by decide)) rfl T.g_law_caught T.k_law_caught T.b_law_caught .nil pass0 (pa_cons (pv 0) (pa_cons (pv 1) pa_nil))))) (pw_or1 (pt_val (pe_call (ok__law_caught T) (hr.mono (by decide)) rfl T.g_law_caught T.k_law_caught T.b_law_caught .nil pass0 (pa_cons (pv 0) (pa_cons (pv 4) pa_nil)))))))
      (pss_one (ps_ret (pv 4)))
      pss_nil)
      (pss_cons (ps_if (pt_val (pe_call (ok__law_caught T) (hr.mono (by decide)) rfl T.g_law_caught T.k_law_caught T.b_law_caught .nil pass0 (pa_cons (pv 0) (pa_cons (pe_op op_catT (pe_tup (pa_cons (pe_op op_add (pe_ix (r := rIxT K) ix_tup (pv 1) pe_int (fun _ _ => rfl)) (pv 2)) (pa_cons (pe_ix (r := rIxT K) ix_tup (pv 1) pe_int (fun _ _ => rfl)) pa_nil))) (pe_slice (r := rSlT K) sl_tup (pv 1) (po_some pe_int) po_none)) pa_nil))))
      (pss_one (ps_ret (pe_op op_catT (pe_tup (pa_cons (pe_op op_add (pe_ix (r := rIxT K) ix_tup (pv 1) pe_int (fun _ _ => rfl)) (pv 2)) (pa_cons (pe_ix (r := rIxT K) ix_tup (pv 1) pe_int (fun _ _ => rfl)) pa_nil))) (pe_slice (r := rSlT K) sl_tup (pv 1) (po_some pe_int) po_none))))
      pss_nil)
      (pss_cons (ps_if (pt_val (pe_call (ok__law_caught T) (hr.mono (by decide)) rfl T.g_law_caught T.k_law_caught T.b_law_caught .nil pass0 (pa_cons (pv 0) (pa_cons (pe_op op_catT (pe_tup (pa_cons (pe_ix (r := rIxT K) ix_tup (pv 1) pe_int (fun _ _ => rfl)) (pa_cons (pe_op op_add (pe_ix (r := rIxT K) ix_tup (pv 1) pe_int (fun _ _ => rfl)) (pv 3)) pa_nil))) (pe_slice (r := rSlT K) sl_tup (pv 1) (po_some pe_int) po_none)) pa_nil))))
      (pss_one (ps_ret (pe_op op_catT (pe_tup (pa_cons (pe_ix (r := rIxT K) ix_tup (pv 1) pe_int (fun _ _ => rfl)) (pa_cons (pe_op op_add (pe_ix (r := rIxT K) ix_tup (pv 1) pe_int (fun _ _ => rfl)) (pv 3)) pa_nil))) (pe_slice (r := rSlT K) sl_tup (pv 1) (po_some pe_int) po_none))))
      pss_nil)
      (pss_one (ps_ret (pv 1))))))), ?_⟩
    unfold movR at q
    walk_at "go"
    rename_i p1 h1 p2 h2 n3 p3 h3
    have hw : SqT K _ p3 (rv (shR f dx dy)) := SqT.of (upd_same (H := upd (upd H p1 (.tup [.int (f.x + dx), .int (f.y + dy)])) p2 (.tup (cutV (rv f) (some 2) none))) (a := p3) (o := .tup ([.int (f.x + dx), .int (f.y + dy)] ++ cutV (rv f) (some 2) none)))
    have s3 : Same H (upd (upd (upd H p1 (.tup [.int (f.x + dx), .int (f.y + dy)])) p2 (.tup (cutV (rv f) (some 2) none))) p3 (.tup ([.int (f.x + dx), .int (f.y + dy)] ++ cutV (rv f) (some 2) none))) := by walk_at "sm"
    generalize hH : (upd (upd (upd H p1 (.tup [.int (f.x + dx), .int (f.y + dy)])) p2 (.tup (cutV (rv f) (some 2) none))) p3 (.tup ([.int (f.x + dx), .int (f.y + dy)] ++ cutV (rv f) (some 2) none))) = H3 at hw s3 ⊢
    clear hH
    have hA3 := hA.to s3
    have hf3 := s3.sqt hf
    refine ⟨_, _, as, rs, f, rfl, hA3, hf3, by omega, ?_⟩
    cases hc : caughtR rs f with
    | false =>
      rw [if_pos (.inl hc)] at q
      walk_at "go"
      exact q _ _ s3 hw
    | true =>
      walk_at "go"
      refine ⟨_, _, as, rs, shR f dx dy, rfl, hA3, hw, (by show -100000 ≤ f.x + dx ∧ f.x + dx ≤ 100000 ∧ 0 ≤ f.w ∧ f.w ≤ 1000; omega), ?_⟩
      cases hc1 : caughtR rs (shR f dx dy) with
      | true =>
        rw [if_pos (.inr hc1)] at q
        walk_at "go"
        exact q _ _ s3 hw
      | false =>
        rw [hc, hc1, if_neg (by decide)] at q
        walk_at "go"
        rename_i p4 h4 p5 h5 n6 p6 h6
        have e0 : ∀ z : Int, z + 0 = z := Int.add_zero
        have hw4 := SqT.of (K := K) (upd_same (H := upd (upd H3 p4 (.tup [.int (f.x + dx), .int f.y])) p5 (.tup (cutV (rv f) (some 2) none))) (a := p6) (o := .tup ([.int (f.x + dx), .int f.y] ++ cutV (rv f) (some 2) none)))
        have s4 : Same H3 (upd (upd (upd H3 p4 (.tup [.int (f.x + dx), .int f.y])) p5 (.tup (cutV (rv f) (some 2) none))) p6 (.tup ([.int (f.x + dx), .int f.y] ++ cutV (rv f) (some 2) none))) := by walk_at "sm"
        generalize hH : (upd (upd (upd H3 p4 (.tup [.int (f.x + dx), .int f.y])) p5 (.tup (cutV (rv f) (some 2) none))) p6 (.tup ([.int (f.x + dx), .int f.y] ++ cutV (rv f) (some 2) none))) = H4 at hw4 s4 ⊢
        clear hH
        have hw4 : SqT K H4 p6 (rv (shR f dx 0)) := by rw [rv_sh, e0]; exact hw4
        have hA4 := hA3.to s4
        have hf4 := s4.sqt hf3
        refine ⟨_, _, as, rs, shR f dx 0, rfl, hA4, hw4, (by show -100000 ≤ f.x + dx ∧ f.x + dx ≤ 100000 ∧ 0 ≤ f.w ∧ f.w ≤ 1000; omega), ?_⟩
        cases hc2 : caughtR rs (shR f dx 0) with
        | true =>
          rw [hc2, if_pos rfl] at q
          walk_at "go"
          refine q _ _ ?_ ?_
          · exact (s3.trans s4).trans (by walk_at "sm")
          · rw [rv_sh, e0]
            exact SqT.of upd_same
        | false =>
          rw [hc2, if_neg (by decide)] at q
          walk_at "go"
          rename_i p7 h7 p8 h8 n9 p9 h9
          have hw5 := SqT.of (K := K) (upd_same (H := upd (upd H4 p7 (.tup [.int f.x, .int (f.y + dy)])) p8 (.tup (cutV (rv f) (some 2) none))) (a := p9) (o := .tup ([.int f.x, .int (f.y + dy)] ++ cutV (rv f) (some 2) none)))
          have s5 : Same H4 (upd (upd (upd H4 p7 (.tup [.int f.x, .int (f.y + dy)])) p8 (.tup (cutV (rv f) (some 2) none))) p9 (.tup ([.int f.x, .int (f.y + dy)] ++ cutV (rv f) (some 2) none))) := by walk_at "sm"
          generalize hH : (upd (upd (upd H4 p7 (.tup [.int f.x, .int (f.y + dy)])) p8 (.tup (cutV (rv f) (some 2) none))) p9 (.tup ([.int f.x, .int (f.y + dy)] ++ cutV (rv f) (some 2) none))) = H5 at hw5 s5 ⊢
          clear hH
          have hw5 : SqT K H5 p9 (rv (shR f 0 dy)) := by rw [rv_sh, e0]; exact hw5
          have hA5 := hA4.to s5
          have hf5 := s5.sqt hf4
          refine ⟨_, _, as, rs, shR f 0 dy, rfl, hA5, hw5, (by show -100000 ≤ f.x + 0 ∧ f.x + 0 ≤ 100000 ∧ 0 ≤ f.w ∧ f.w ≤ 1000; omega), ?_⟩
          cases hc3 : caughtR rs (shR f 0 dy) with
          | true =>
            rw [hc3, if_pos rfl] at q
            walk_at "go"
            refine q _ _ ?_ ?_
            · exact ((s3.trans s4).trans s5).trans (by walk_at "sm")
            · rw [rv_sh, e0]
              exact SqT.of upd_same
          | false =>
            rw [hc3, if_neg (by decide)] at q
            walk_at "go"
            exact q _ _ ((s3.trans s4).trans s5) hf5
def sp__law_length (K : PySem.W.Frag) : Sp := fun vs H Q _ => ∃ a b c : Int, vs = [.int a, .int b, .int c] ∧ 0 ≤ c ∧ ∀ H', Same H H' → Q (.int (keptI a b c)) H'
theorem sc__law_length : FnScope ["length", "least", "largest", "bound"] ["length", "least", "largest"] (defScope s__law_length) := ⟨rfl, rfl, rfl, by decide +kernel, rfl, by decide +kernel, by decide +kernel⟩
theorem ok__law_length (T : Txt K mg A) : FnOk P w K mg base CX0 1 A.f_law_length A.d_law_length ["length", "least", "largest"] (sp__law_length K) := by
  refine T.F_law_length.ok sc__law_length (fun vs H Q E h => ?_) (fun cdv Ar outer s H vs Q E hr h => ?_)
  · obtain ⟨_, _, _, rfl, _⟩ := h
    rfl
  · obtain ⟨a, b, c, rfl, hc, q⟩ := h
    refine ⟨_, (C8.pss_cut (ps_if (PW.pt (pw_and (pt_cmpR op_gt (pv 2) pe_int (nomark _)) (pw_and1 (pt_cmpR op_gt (pv 0) (pv 2) (nomark _)))))
      (pss_one (ps_set (i := 0) sc__law_length.nd rfl (Or.inl rfl) (pv 2)))
      pss_nil)
      (pss_cons (ps_for PassesOwn.never rfl (pi_tup (pe_tup (pa_cons (pv 1) (pa_cons pe_int pa_nil)))) (pg_name (i := 3) sc__law_length.nd rfl (Or.inl rfl))
      (pss_one (ps_if (pt_cmpR op_lt (pv 0) (pv 3) (nomark _))
      (pss_one (ps_set (i := 0) sc__law_length.nd rfl (Or.inl rfl) (pv 3)))
      pss_nil)))
      (pss_one (ps_ret (pe_callB (call_min2 rfl) (by rfl) T.min (by decide +kernel) (pa_cons (pv 0) (pa_cons pe_int pa_nil))))))), ?_⟩
    refine ⟨fun σ' H' => ∃ v3, σ' = [some (.int (if c = 0 then a else mn a c)), some (.int b), some (.int c), v3] ∧ H' = H, ?_, ?_⟩
    · walk_at "go"
      refine iteP (fun h => ?_) (fun h => ?_)
      · walk_at "go"
        rw [if_neg (by omega)]
        unfold mn
        refine iteP (fun h1 => ?_) (fun h1 => ?_)
        · rw [if_pos h1]; walk_at "go"; first | exact ⟨_, rfl, rfl⟩ | exact rfl
        · rw [if_neg h1]; first | exact ⟨_, rfl, rfl⟩ | exact rfl
      · rw [if_pos (by omega)]; first | exact ⟨_, rfl, rfl⟩ | exact rfl
    rintro σ' H' ⟨v3, rfl, rfl⟩
    unfold keptI at q
    generalize (if c = 0 then a else mn a c) = l at q ⊢
    walk_at "go"
    rename_i p1 h1
    refine ⟨⟨_, SqT.of upd_same⟩, for_tup (K := K) (a := p1) (xs := [.int b, .int 16]) (fun j σ H'' => ∃ v3 : Option V, σ = [some (.int (if j = 0 then l else if j = 1 then mx l b else mx (mx l b) 16)), some (.int b), some (.int c), v3] ∧ H'' = upd H' p1 (.tup [.int b, .int 16])) ⟨_, rfl, rfl⟩ (fun j σ H'' _ ⟨_, _, h⟩ => by rw [h]; exact SqT.of upd_same) ?_ ?_⟩
    · rintro j x σ H'' hx ⟨v3, rfl, rfl⟩
      have hl := (List.getElem?_eq_some_iff.mp hx).1
      simp only [List.length_cons, List.length_nil] at hl
      obtain ⟨d, rfl, en⟩ : ∃ d : Int, x = .int d ∧ (if j + 1 = 0 then l else if j + 1 = 1 then mx l b else mx (mx l b) 16) = mx (if j = 0 then l else if j = 1 then mx l b else mx (mx l b) 16) d := by
        rcases (by omega : j = 0 ∨ j = 1) with rfl | rfl
        · injection hx with hx; exact ⟨b, hx.symm, rfl⟩
        · injection hx with hx; exact ⟨16, hx.symm, rfl⟩
      rw [en]
      generalize (if j = 0 then l else if j = 1 then mx l b else mx (mx l b) 16) = z
      walk_at "go"
      unfold mx
      refine iteP (fun h => ?_) (fun h => ?_)
      · rw [if_pos (show d > z from h)]; walk_at "go"; first | exact ⟨_, rfl, rfl⟩ | exact rfl
      · rw [if_neg (show ¬ d > z from h)]; first | exact ⟨_, rfl, rfl⟩ | exact rfl
    · rintro σ H'' ⟨v3, rfl, rfl⟩
      walk_at "go"
      exact q _ (same_upd h1)
theorem t_eqS {K : PySem.W.Frag} {x y : V} {H : Hp} {Q : VK} {d : PyData} (h1 : Dp K H x d) (h2 : Dp K H y d) (s1 : SeqAt.shaped d = true) (q : Q (.bl true) H) : rEqD K x y H Q := by
  have h3 : (d.canLay0 && decide (d.depth ≤ 64)) = true := s1
  have e : PyData.eqv d d = true := SeqAt.eqv_refl d (by rw [Bool.and_eq_true] at h3; exact h3.1)
  exact ⟨d, d, h1, h2, s1, s1, by rw [e]; exact q⟩
def sp__law_resized_good (K : PySem.W.Frag) : Sp := fun vs H Q _ => ∃ (pf pp pw pl pg : Addr) (f : Rc) (nm : V) (hz vt dx dy l0 l1 g0 g1 : Int), vs = [.ref pf, .ref pp, .ref pw, .ref pl, .ref pg] ∧ SqT K H pf (rv f) ∧ SqT K H pp [nm, .int hz, .int vt] ∧ SqT K H pw [.int dx, .int dy] ∧ SqT K H pl [.int l0, .int l1] ∧ SqT K H pg [.int g0, .int g1] ∧ ((hz = -1 ∨ hz = 0 ∨ hz = 1) ∧ (vt = 0 ∨ vt = 1) ∧ 0 ≤ g0 ∧ 0 ≤ g1) ∧ ∀ H', Same H H' → Q (.bl true) H'
theorem ins_frm (f : Rc) : insR (frmR f) = f := by
  obtain ⟨x, y, w, h⟩ := f
  show Rc.mk (x - 2 + 2) (y - 10 + 10) (w + 2 * 2 - 2 * 2) (h + 10 + 2 - 10 - 2) = _
  rw [show x - 2 + 2 = x from by omega, show y - 10 + 10 = y from by omega, show w + 2 * 2 - 2 * 2 = w from by omega, show h + 10 + 2 - 10 - 2 = h from by omega]
theorem sc__law_resized_good : FnScope ["frame", "part", "way", "least", "largest", "x", "y", "wide", "high", "told", "width", "height"] ["frame", "part", "way", "least", "largest"] (defScope s__law_resized_good) := ⟨rfl, rfl, rfl, by decide +kernel, rfl, by decide +kernel, by decide +kernel⟩
theorem ok__law_resized_good (T : Txt K mg A) : FnOk P w K mg base CX0 3 A.f_law_resized_good A.d_law_resized_good ["frame", "part", "way", "least", "largest"] (sp__law_resized_good K) := by
  refine T.F_law_resized_good.ok sc__law_resized_good (fun vs H Q E h => ?_) (fun cdv Ar outer s H vs Q E hr h => ?_)
  · obtain ⟨_, _, _, _, _, _, _, _, _, _, _, _, _, _, _, rfl, _⟩ := h
    rfl
  · obtain ⟨pf, pp, pw, pl, pg, f, nm, hz, vt, dx, dy, l0, l1, g0, g1, rfl, hf, hp, hw, hl, hg, hb, q⟩ := h
    refine ⟨_, (C8.pss_cut (ps_asg (pe_call (ok_inside_of T) (hr.mono (by decide)) rfl T.ginside_of T.kinside_of T.binside_of .nil pass0 (pa_cons (pv 0) pa_nil)) (pg_tup rfl (pgs_cons (pg_name (i := 5) sc__law_resized_good.nd rfl (Or.inl rfl)) (pgs_cons (pg_name (i := 6) sc__law_resized_good.nd rfl (Or.inl rfl)) (pgs_cons (pg_name (i := 7) sc__law_resized_good.nd rfl (Or.inl rfl)) (pgs_cons (pg_name (i := 8) sc__law_resized_good.nd rfl (Or.inl rfl)) pgs_nil))))))
      (pss_cons (ps_set (i := 9) sc__law_resized_good.nd rfl (Or.inl rfl) (pe_call (ok_inside_of T) (hr.mono (by decide)) rfl T.ginside_of T.kinside_of T.binside_of .nil pass0 (pa_cons (pe_call (ok_resized_frame T) (hr.mono (by decide)) rfl T.gresized_frame T.kresized_frame T.bresized_frame .nil pass0 (pa_cons (pv 0) (pa_cons (pv 1) (pa_cons (pe_ix (r := rIxT K) ix_tup (pv 2) pe_int (fun _ _ => rfl)) (pa_cons (pe_ix (r := rIxT K) ix_tup (pv 2) pe_int (fun _ _ => rfl)) (pa_cons (pv 3) (pa_cons (pv 4) pa_nil))))))) pa_nil)))
      (pss_cons (ps_set (i := 10) sc__law_resized_good.nd rfl (Or.inl rfl) (pv 7))
      (C8.pss_cut (ps_set (i := 11) sc__law_resized_good.nd rfl (Or.inl rfl) (pv 8))
      (C8.pss_cut (ps_if (pt_cmpR op_eq (pe_ix (r := rIxT K) ix_tup (pv 1) pe_int (fun _ _ => rfl)) pe_int (nomark _))
      (pss_one (ps_set (i := 10) sc__law_resized_good.nd rfl (Or.inl rfl) (pe_call (ok__law_length T) (hr.mono (by decide)) rfl T.g_law_length T.k_law_length T.b_law_length .nil pass0 (pa_cons (pe_op op_add (pv 7) (pe_ix (r := rIxT K) ix_tup (pv 2) pe_int (fun _ _ => rfl))) (pa_cons (pe_ix (r := rIxT K) ix_tup (pv 3) pe_int (fun _ _ => rfl)) (pa_cons (pe_ix (r := rIxT K) ix_tup (pv 4) pe_int (fun _ _ => rfl)) pa_nil))))))
      pss_nil)
      (C8.pss_cut (ps_if (pt_cmpR op_eq (pe_ix (r := rIxT K) ix_tup (pv 1) pe_int (fun _ _ => rfl)) (pe_un un_neg pe_int) (nomark _))
      (pss_cons (ps_set (i := 10) sc__law_resized_good.nd rfl (Or.inl rfl) (pe_call (ok__law_length T) (hr.mono (by decide)) rfl T.g_law_length T.k_law_length T.b_law_length .nil pass0 (pa_cons (pe_op op_sub (pv 7) (pe_ix (r := rIxT K) ix_tup (pv 2) pe_int (fun _ _ => rfl))) (pa_cons (pe_ix (r := rIxT K) ix_tup (pv 3) pe_int (fun _ _ => rfl)) (pa_cons (pe_ix (r := rIxT K) ix_tup (pv 4) pe_int (fun _ _ => rfl)) pa_nil)))))
      (pss_one (ps_set (i := 5) sc__law_resized_good.nd rfl (Or.inl rfl) (pe_op op_sub (pe_op op_add (pv 5) (pv 7)) (pv 10)))))
      pss_nil)
      (C8.pss_cut (ps_if (pt_cmpR op_eq (pe_ix (r := rIxT K) ix_tup (pv 1) pe_int (fun _ _ => rfl)) pe_int (nomark _))
      (pss_one (ps_set (i := 11) sc__law_resized_good.nd rfl (Or.inl rfl) (pe_call (ok__law_length T) (hr.mono (by decide)) rfl T.g_law_length T.k_law_length T.b_law_length .nil pass0 (pa_cons (pe_op op_add (pv 8) (pe_ix (r := rIxT K) ix_tup (pv 2) pe_int (fun _ _ => rfl))) (pa_cons (pe_ix (r := rIxT K) ix_tup (pv 3) pe_int (fun _ _ => rfl)) (pa_cons (pe_ix (r := rIxT K) ix_tup (pv 4) pe_int (fun _ _ => rfl)) pa_nil))))))
      pss_nil)
      (pss_one (ps_ret (pe_cmpR (op_eqD hr.units) (pv 9) (pe_tup (pa_cons (pv 5) (pa_cons (pv 6) (pa_cons (pv 10) (pa_cons (pv 11) pa_nil))))) (nomark _))))))))))), ?_⟩
    generalize hX : (insR f).x = X
    generalize hY : (insR f).y = Y
    generalize hW : (insR f).w = W
    generalize hT : (insR f).h = Z
    refine ⟨fun σ' H' => σ' = [some (.ref pf), some (.ref pp), some (.ref pw), some (.ref pl), some (.ref pg), some (.int X), some (.int Y), some (.int W), some (.int Z), none, none, none] ∧ Same H H', ?_, ?_⟩
    · walk_at "go"
      refine ⟨_, f, rfl, hf, ?_⟩
      subst hX hY hW hT
      walk_at "go"
      first | exact ⟨rfl, by walk_at "sm"⟩ | walk_at "sm"
    rintro σ' H1 ⟨rfl, s1⟩
    have hf1 := s1.sqt hf
    have hp1 := s1.sqt hp
    have hw1 := s1.sqt hw
    have hl1 := s1.sqt hl
    have hg1 := s1.sqt hg
    have eT : insR (rszR f hz vt dx dy l0 l1 g0 g1) = ⟨if hz < 0 then X + W - (if hz = 0 then W else keptI (W + hz * dx) l0 g0) else X, Y, if hz = 0 then W else keptI (W + hz * dx) l0 g0, if 0 < vt then keptI (Z + dy) l1 g1 else Z⟩ := by
      unfold rszR; rw [ins_frm, hX, hY, hW, hT]
    walk_at "go"
    refine ⟨_, _, _, _, f, nm, hz, vt, dx, dy, l0, l1, g0, g1, rfl, hf1, hp1, hl1, hg1, by omega, by omega, ?_⟩
    walk_at "go"
    refine ⟨_, _, rfl, SqT.of (by assumption), ?_⟩
    walk_at "go"
    refine ⟨fun σ' H' => ∃ pt : Addr, σ' = [some (.ref pf), some (.ref pp), some (.ref pw), some (.ref pl), some (.ref pg), some (.int X), some (.int Y), some (.int W), some (.int Z), some (.ref pt), some (.int W), some (.int Z)] ∧ Same H1 H' ∧ SqT K H' pt (rv (insR (rszR f hz vt dx dy l0 l1 g0 g1))), ?_, ?_⟩
    · walk_at "go"
      first | exact ⟨_, rfl, by walk_at "sm", SqT.of (by assumption)⟩ | exact ⟨by walk_at "sm", SqT.of (by assumption)⟩
    rintro σ' H2 ⟨pt, rfl, s2, ht⟩
    have hp2 := s2.sqt hp1
    have hw2 := s2.sqt hw1
    have hl2 := s2.sqt hl1
    have hg2 := s2.sqt hg1
    have s12 := s1.trans s2
    clear hf hp hw hl hg hf1 hp1 hw1 hl1 hg1 s1 s2
    rw [eT] at ht
    refine ⟨fun σ' H' => σ' = [some (.ref pf), some (.ref pp), some (.ref pw), some (.ref pl), some (.ref pg), some (.int X), some (.int Y), some (.int W), some (.int Z), some (.ref pt), some (.int (if hz = 1 then keptI (W + dx) l0 g0 else W)), some (.int Z)] ∧ Same H2 H', ?_, ?_⟩
    · walk_at "go"
      refine iteEq (fun h => ?_) (fun h => ?_)
      · rw [if_pos h]; walk_at "go"
        intro H3 s3
        first | exact ⟨rfl, s3⟩ | exact s3
      · rw [if_neg h]; first | exact ⟨rfl, Same.refl _⟩ | exact Same.refl _
    rintro σ' H3 ⟨rfl, s3⟩
    have hp3 := s3.sqt hp2
    have hw3 := s3.sqt hw2
    have hl3 := s3.sqt hl2
    have hg3 := s3.sqt hg2
    refine ⟨fun σ' H' => σ' = [some (.ref pf), some (.ref pp), some (.ref pw), some (.ref pl), some (.ref pg), some (.int (if hz < 0 then X + W - (if hz = 0 then W else keptI (W + hz * dx) l0 g0) else X)), some (.int Y), some (.int W), some (.int Z), some (.ref pt), some (.int (if hz = 0 then W else keptI (W + hz * dx) l0 g0)), some (.int Z)] ∧ Same H3 H', ?_, ?_⟩
    · walk_at "go"
      refine iteEq (fun h => ?_) (fun h => ?_)
      · walk_at "go"
        intro H4 s4
        walk_at "go"
        have e3 : (W + hz * dx) = W - dx := by rw [h]; omega
        rw [if_pos (show hz < 0 by omega), if_neg (show ¬ hz = 0 by omega), e3]
        first | exact ⟨rfl, s4⟩ | exact s4
      · rw [if_neg (show ¬ hz < 0 by omega)]
        have e3 : (if hz = 0 then W else keptI (W + hz * dx) l0 g0) = (if hz = 1 then keptI (W + dx) l0 g0 else W) := by
          by_cases c : hz = 0
          · rw [if_pos c, if_neg (by omega)]
          · have c1 : hz = 1 := by omega
            rw [if_neg c, if_pos c1, c1, Int.one_mul]
        rw [e3]
        first | exact ⟨rfl, Same.refl _⟩ | exact Same.refl _
    rintro σ' H4 ⟨rfl, s4⟩
    have hp4 := s4.sqt hp3
    have hw4 := s4.sqt hw3
    have hl4 := s4.sqt hl3
    have hg4 := s4.sqt hg3
    generalize (if hz < 0 then X + W - (if hz = 0 then W else keptI (W + hz * dx) l0 g0) else X) = x9 at ht ⊢
    generalize (if hz = 0 then W else keptI (W + hz * dx) l0 g0) = w9 at ht ⊢
    refine ⟨fun σ' H' => σ' = [some (.ref pf), some (.ref pp), some (.ref pw), some (.ref pl), some (.ref pg), some (.int x9), some (.int Y), some (.int W), some (.int Z), some (.ref pt), some (.int w9), some (.int (if 0 < vt then keptI (Z + dy) l1 g1 else Z))] ∧ Same H4 H', ?_, ?_⟩
    · walk_at "go"
      refine iteEq (fun h => ?_) (fun h => ?_)
      · rw [if_pos (show 0 < vt by omega)]; walk_at "go"
        intro H5 s5
        first | exact ⟨rfl, s5⟩ | exact s5
      · rw [if_neg (show ¬ 0 < vt by omega)]; first | exact ⟨rfl, Same.refl _⟩ | exact Same.refl _
    rintro σ' H5 ⟨rfl, s5⟩
    have ht5 := s5.sqt (s4.sqt (s3.sqt ht))
    have s15 := ((s12.trans s3).trans s4).trans s5
    clear ht hp2 hp3 hp4 hw2 hw3 hw4 hl2 hl3 hl4 hg2 hg3 hg4 s12 s3 s4 s5
    generalize (if 0 < vt then keptI (Z + dy) l1 g1 else Z) = h9 at ht5 ⊢
    walk_at "go"
    exact t_eqS (.tup (by walk_at "sq") (.cons (.int _) (.cons (.int _) (.cons (.int _) (.cons (.int _) .nil))))) (.tup (SqT.of upd_same) (.cons (.int _) (.cons (.int _) (.cons (.int _) (.cons (.int _) .nil))))) (by walk_at "sh") (q _ (by walk_at "sm"))
theorem part_shape (f : Rc) (x y : Int) : ∃ (nm : Str) (hz vt : Int), partR f x y = [.str nm, .int hz, .int vt] ∧ PyData.strOk nm = true ∧ (hz = -1 ∨ hz = 0 ∨ hz = 1) ∧ (vt = 0 ∨ vt = 1) := by
  unfold partR
  by_cases h : y < f.y + 10
  · rw [if_pos h]
    refine ⟨_, 0, 0, rfl, ?_, .inr (.inl rfl), .inl rfl⟩
    unfold btn
    repeat' split
    all_goals decide +kernel
  · rw [if_neg h]
    refine ⟨_, _, _, rfl, by decide +kernel, ?_, ?_⟩
    · unfold sideH; repeat' split
      all_goals omega
    · unfold sideV; split <;> omega
def sp__law_part (K : PySem.W.Frag) : Sp := fun vs H Q _ => ∃ (p : Addr) (f : Rc) (x y : Int), vs = [.ref p, .int x, .int y] ∧ SqT K H p (rv f) ∧ x < f.x + f.w ∧ RetT H Q (partR f x y)
theorem sc__law_part : FnScope ["frame", "x", "y", "from_left", "from_right", "from_bottom", "names", "side"] ["frame", "x", "y"] (defScope s__law_part) := ⟨rfl, rfl, rfl, by decide +kernel, rfl, by decide +kernel, by decide +kernel⟩
theorem ok__law_part (T : Txt K mg A) : FnOk P w K mg base CX0 1 A.f_law_part A.d_law_part ["frame", "x", "y"] (sp__law_part K) := by
  refine T.F_law_part.ok sc__law_part (fun vs H Q E h => ?_) (fun cdv Ar outer s H vs Q E hr h => ?_)
  · obtain ⟨_, _, _, _, rfl, _⟩ := h
    rfl
  · obtain ⟨p, f, x, y, rfl, hf, hx, q⟩ := h
    refine ⟨_, (pss_cons (ps_set (i := 3) sc__law_part.nd rfl (Or.inl rfl) (pe_op op_sub (pv 1) (pe_ix (r := rIxT K) ix_tup (pv 0) pe_int (fun _ _ => rfl))))
      (pss_cons (ps_set (i := 4) sc__law_part.nd rfl (Or.inl rfl) (pe_op op_sub (pe_op op_sub (pe_op op_add (pe_ix (r := rIxT K) ix_tup (pv 0) pe_int (fun _ _ => rfl)) (pe_ix (r := rIxT K) ix_tup (pv 0) pe_int (fun _ _ => rfl))) pe_int) (pv 1)))
      (pss_cons (ps_set (i := 5) sc__law_part.nd rfl (Or.inl rfl) (pe_op op_sub (pe_op op_sub (pe_op op_add (pe_ix (r := rIxT K) ix_tup (pv 0) pe_int (fun _ _ => rfl)) (pe_ix (r := rIxT K) ix_tup (pv 0) pe_int (fun _ _ => rfl))) pe_int) (pv 2)))
      (pss_cons (ps_if (pt_cmpR op_lt (pe_op op_sub (pv 2) (pe_ix (r := rIxT K) ix_tup (pv 0) pe_int (fun _ _ => rfl))) pe_int (nomark _))
      (pss_cons (ps_set (i := 6) sc__law_part.nd rfl (Or.inl rfl) (pe_lst (pa_cons pe_str (pa_cons pe_str (pa_cons pe_str pa_nil)))))
      (pss_cons (ps_if (pt_cmpR op_lt (pv 4) pe_int (nomark _))
      (pss_one (ps_ret (pe_tup (pa_cons (pe_ix (r := rIxL K) ix_list (pv 6) (pe_op op_fdiv (pv 4) pe_int) (fun _ _ => rfl)) (pa_cons pe_int (pa_cons pe_int pa_nil))))))
      pss_nil)
      (pss_one (ps_ret (pe_tup (pa_cons pe_str (pa_cons pe_int (pa_cons pe_int pa_nil))))))))
      pss_nil)
      (pss_cons (ps_set (i := 7) sc__law_part.nd rfl (Or.inl rfl) pe_int)
      (C8.pss_cut (ps_if (pt_cmpR op_lt (pv 3) pe_int (nomark _))
      (pss_one (ps_set (i := 7) sc__law_part.nd rfl (Or.inl rfl) (pe_un un_neg pe_int)))
      (pss_one (ps_if (pt_cmpR op_lt (pv 4) pe_int (nomark _))
      (pss_one (ps_set (i := 7) sc__law_part.nd rfl (Or.inl rfl) pe_int))
      pss_nil)))
      (pss_one (ps_ret (pe_tup (pa_cons pe_str (pa_cons (pv 7) (pa_cons (pe_callTy call_int1 (by rfl) T.int (by decide +kernel) (pa_cons (pe_cmpR op_lt (pv 5) pe_int (nomark _)) pa_nil)) pa_nil)))))))))))), ?_⟩
    unfold partR at q
    walk_at "go"
    refine iteP (fun h => ?_) (fun h => ?_)
    · rw [if_pos (show y < f.y + 10 by omega)] at q
      walk_at "go"
      have fin : ∀ (z : Str) (H' : Hp) (p' : Addr), z = btn (f.x + f.w - 1 - x) → Same H H' → H' p' = some (.tup [.str z, .int 0, .int 0]) → Q (.ref p') H' := by
        rintro z H' p' rfl s' e'; exact q _ _ s' e'
      generalize hn : f.x + f.w - 1 - x = n at fin ⊢
      have hn0 : 0 ≤ n := by omega
      refine iteP (fun h1 => ?_) (fun h1 => ?_)
      · obtain ⟨j, hj, hj3⟩ : ∃ j : Nat, n / 10 = j ∧ j < 3 := ⟨(n / 10).toNat, by omega, by omega⟩
        walk_at "go"
        refine ⟨_, _, _, .str (([("close" : Str), "maximize", "minimize"] : List Str).getD j ""), rfl, rfl, SqL.of upd_same, at_of (j := j) (by rw [← hj, ← hn]) ?_, ?_⟩
        · rcases (by omega : j = 0 ∨ j = 1 ∨ j = 2) with rfl | rfl | rfl <;> rfl
        walk_at "go"
        refine fin _ _ _ ?_ (by walk_at "sm") upd_same
        unfold btn
        rcases (by omega : j = 0 ∨ j = 1 ∨ j = 2) with rfl | rfl | rfl
        · rw [if_pos (by omega)]; rfl
        · rw [if_neg (by omega), if_pos (by omega)]; rfl
        · rw [if_neg (by omega), if_neg (by omega), if_pos (by omega)]; rfl
      · walk_at "go"
        refine fin _ _ _ ?_ (by walk_at "sm") upd_same
        unfold btn
        rw [if_neg (by omega), if_neg (by omega), if_neg (by omega)]
    rw [if_neg (show ¬ y < f.y + 10 by omega)] at q
    refine ⟨fun σ' H' => σ' = [some (.ref p), some (.int x), some (.int y), some (.int (x - f.x)), some (.int (f.x + f.w - 1 - x)), some (.int (f.y + f.h - 1 - y)), none, some (.int (sideH f x))] ∧ H' = H, ?_, ?_⟩
    · walk_at "go"
      unfold sideH
      refine iteP (fun h => ?_) (fun h => ?_)
      · rw [if_pos h]; walk_at "go"; first | rfl | exact ⟨rfl, rfl⟩
      rw [if_neg h]
      walk_at "go"
      refine iteP (fun h => ?_) (fun h => ?_)
      · rw [if_pos h]; walk_at "go"; first | rfl | exact ⟨rfl, rfl⟩
      · rw [if_neg h]; first | rfl | exact ⟨rfl, rfl⟩
    rintro σ' H' ⟨rfl, rfl⟩
    refine ⟨_, rfl, _, rfl, _, _, rfl, rfl, Or.inr ⟨_, rfl, len_line (by show 3 ≤ 100000; decide), fun p2 h2 => ?_⟩⟩
    refine q _ _ (same_upd h2) ?_
    have e : sideV f y = if decide (f.y + f.h - 1 - y < 10) = true then 1 else 0 := by
      unfold sideV
      by_cases c : f.y + f.h - 1 - y < 10
      · rw [if_pos c, if_pos (decide_eq_true c)]
      · rw [if_neg c, if_neg (by rw [decide_eq_false c]; decide)]
    rw [e]
    exact upd_same
theorem dp_rc {K : PySem.W.Frag} {H : Hp} {p : Addr} {r : Rc} (h : SqT K H p (rv r)) : Dp K H (.ref p) (.tuple [.int r.x, .int r.y, .int r.w, .int r.h]) := .tup h (.cons (.int _) (.cons (.int _) (.cons (.int _) (.cons (.int _) .nil))))
theorem dp_part {K : PySem.W.Frag} {H : Hp} {p : Addr} {nm : Str} {hz vt : Int} (h : SqT K H p [.str nm, .int hz, .int vt]) : Dp K H (.ref p) (.tuple [.str nm, .int hz, .int vt]) := .tup h (.cons (.str _) (.cons (.int _) (.cons (.int _) .nil)))
theorem sh_part {nm : Str} {hz vt : Int} (h : PyData.strOk nm = true) : SeqAt.shaped (.tuple [.str nm, .int hz, .int vt]) = true :=
  (sh_tuple (n := 0) fun d hd => by
    simp only [List.mem_cons, List.not_mem_nil, or_false] at hd
    rcases hd with rfl | rfl | rfl
    · exact sh_str h
    · exact sh_int _
    · exact sh_int _).shaped
def frm38 (row : Int) : Rc := ⟨row / 7 % 90 - 40, row / 630 % 90 - 40, 20 + row / 13 % 60, 28 + row / 17 % 60⟩
theorem frm38_b (row : Int) : -40 ≤ (frm38 row).x ∧ (frm38 row).x < 50 ∧ 20 ≤ (frm38 row).w ∧ (frm38 row).w < 80 ∧ 28 ≤ (frm38 row).h := by
  show -40 ≤ row / 7 % 90 - 40 ∧ row / 7 % 90 - 40 < 50 ∧ 20 ≤ 20 + row / 13 % 60 ∧ 20 + row / 13 % 60 < 80 ∧ 28 ≤ 28 + row / 17 % 60
  omega
theorem iteNe' {x y : V} {A B : Prop} (h1 : x ≠ y → A) (h2 : x = y → B) : if (!decide (x = y)) = true then A else B := by
  by_cases h : x = y
  · rw [decide_eq_true h]; exact iteF (h2 h)
  · rw [decide_eq_false h]; exact iteT (h1 h)
theorem sc_law : FnScope ["script", "k", "row", "areas", "frame", "way", "least", "largest", "step", "x", "y", "part"] ["script"] (defScope s_law) := ⟨rfl, rfl, rfl, by decide +kernel, rfl, by decide +kernel, by decide +kernel⟩
theorem ok_law (T : Txt K mg A) : FnOk P w K mg base CX0 5 A.flaw A.dlaw ["script"] (sp_law K) := by
  refine T.Flaw.ok sc_law (fun vs H Q E h => ?_) (fun cdv Ar outer s H vs Q E hr h => ?_)
  · obtain ⟨a, ns, rfl, _⟩ := h
    rfl
  · obtain ⟨a, ns, rfl, hS, hlen, q⟩ := h
    refine ⟨_, (pss_cons (ps_for PassesOwn.never rfl (pi_range1 (by rfl) T.range (pa_cons (pe_op op_add (pe_callB (call_min2 rfl) (by rfl) T.min (by decide +kernel) (pa_cons (pe_callB call_len_seq (by rfl) T.len PySem.boot_len (pa_cons (pv 0) pa_nil)) (pa_cons pe_int pa_nil))) pe_int) pa_nil)) (pg_name (i := 1) sc_law.nd rfl (Or.inl rfl))
      (pss_cons (ps_set (i := 2) sc_law.nd rfl (Or.inl rfl) (pe_callTy call_int1 (by rfl) T.int (by decide +kernel) (pa_cons (pe_call (ok__law_row T) (hr.mono (by decide)) rfl T.g_law_row T.k_law_row T.b_law_row .nil pass0 (pa_cons (pv 0) (pa_cons (pv 1) pa_nil))) pa_nil)))
      (pss_cons (ps_set (i := 3) sc_law.nd rfl (Or.inl rfl) (pe_call (ok__law_areas T) (hr.mono (by decide)) rfl T.g_law_areas T.k_law_areas T.b_law_areas .nil pass0 (pa_cons (pv 2) pa_nil)))
      (pss_cons (ps_set (i := 4) sc_law.nd rfl (Or.inl rfl) (pe_tup (pa_cons (pe_op op_sub (pe_op op_mod (pe_op op_fdiv (pv 2) pe_int) pe_int) pe_int) (pa_cons (pe_op op_sub (pe_op op_mod (pe_op op_fdiv (pv 2) pe_int) pe_int) pe_int) (pa_cons (pe_op op_add pe_int (pe_op op_mod (pe_op op_fdiv (pv 2) pe_int) pe_int)) (pa_cons (pe_op op_add pe_int (pe_op op_mod (pe_op op_fdiv (pv 2) pe_int) pe_int)) pa_nil))))))
      (C8.pss_cut (ps_set (i := 5) sc_law.nd rfl (Or.inl rfl) (pe_tup (pa_cons (pe_op op_sub (pe_op op_mod (pe_op op_fdiv (pv 2) pe_int) pe_int) pe_int) (pa_cons (pe_op op_sub (pe_op op_mod (pe_op op_fdiv (pv 2) pe_int) pe_int) pe_int) pa_nil))))
      (pss_cons (ps_if (pt_cmpR op_ne (pe_call (ok_can_be_caught T) (hr.mono (by decide)) rfl T.gcan_be_caught T.kcan_be_caught T.bcan_be_caught .nil pass0 (pa_cons (pv 3) (pa_cons (pv 4) pa_nil))) (pe_call (ok__law_caught T) (hr.mono (by decide)) rfl T.g_law_caught T.k_law_caught T.b_law_caught .nil pass0 (pa_cons (pv 3) (pa_cons (pv 4) pa_nil))) (nomark _))
      (pss_one (ps_ret pe_bl))
      pss_nil)
      (pss_cons (ps_if (pt_cmpR (op_neD hr.units) (pe_call (ok_moved_frame T) (hr.mono (by decide)) rfl T.gmoved_frame T.kmoved_frame T.bmoved_frame .nil pass0 (pa_cons (pv 3) (pa_cons (pv 4) (pa_cons (pe_ix (r := rIxT K) ix_tup (pv 5) pe_int (fun _ _ => rfl)) (pa_cons (pe_ix (r := rIxT K) ix_tup (pv 5) pe_int (fun _ _ => rfl)) pa_nil))))) (pe_call (ok__law_moved T) (hr.mono (by decide)) rfl T.g_law_moved T.k_law_moved T.b_law_moved .nil pass0 (pa_cons (pv 3) (pa_cons (pv 4) (pa_cons (pe_ix (r := rIxT K) ix_tup (pv 5) pe_int (fun _ _ => rfl)) (pa_cons (pe_ix (r := rIxT K) ix_tup (pv 5) pe_int (fun _ _ => rfl)) pa_nil))))) (nomark _))
      (pss_one (ps_ret pe_bl))
      pss_nil)
      (pss_cons (ps_set (i := 6) sc_law.nd rfl (Or.inl rfl) (pe_tup (pa_cons (pe_op op_mul (pe_op op_mod (pe_op op_fdiv (pv 2) pe_int) pe_int) pe_int) (pa_cons (pe_op op_mul (pe_op op_mod (pe_op op_fdiv (pv 2) pe_int) pe_int) pe_int) pa_nil))))
      (C8.pss_cut (ps_set (i := 7) sc_law.nd rfl (Or.inl rfl) (pe_tup (pa_cons (pe_op op_mul (pe_op op_mod (pe_op op_fdiv (pv 2) pe_int) pe_int) pe_int) (pa_cons (pe_op op_mul (pe_op op_mod (pe_op op_fdiv (pv 2) pe_int) pe_int) pe_int) pa_nil))))
      (pss_one (ps_for PassesOwn.never rfl (pi_range1 (by rfl) T.range (pa_cons pe_int pa_nil)) (pg_name (i := 8) sc_law.nd rfl (Or.inl rfl))
      (pss_cons (ps_set (i := 9) sc_law.nd rfl (Or.inl rfl) (pe_op op_add (pe_ix (r := rIxT K) ix_tup (pv 4) pe_int (fun _ _ => rfl)) (pe_op op_mod (pe_op op_fdiv (pv 2) (pe_op op_add (pv 8) pe_int)) (pe_ix (r := rIxT K) ix_tup (pv 4) pe_int (fun _ _ => rfl)))))
      (pss_cons (ps_set (i := 10) sc_law.nd rfl (Or.inl rfl) (pe_op op_add (pe_ix (r := rIxT K) ix_tup (pv 4) pe_int (fun _ _ => rfl)) (pe_op op_mod (pe_op op_fdiv (pv 2) (pe_op op_add (pv 8) pe_int)) (pe_ix (r := rIxT K) ix_tup (pv 4) pe_int (fun _ _ => rfl)))))
      (pss_cons (ps_set (i := 11) sc_law.nd rfl (Or.inl rfl) (pe_call (ok__law_part T) (hr.mono (by decide)) rfl T.g_law_part T.k_law_part T.b_law_part .nil pass0 (pa_cons (pv 4) (pa_cons (pv 9) (pa_cons (pv 10) pa_nil)))))
      (pss_cons (ps_if (pt_cmpR (op_neD hr.units) (pe_call (ok_part_at T) (hr.mono (by decide)) rfl T.gpart_at T.kpart_at T.bpart_at .nil pass0 (pa_cons (pv 4) (pa_cons (pv 9) (pa_cons (pv 10) pa_nil)))) (pv 11) (nomark _))
      (pss_one (ps_ret pe_bl))
      pss_nil)
      (pss_one (ps_if (PW.pt (pw_and (pt_cmpR op_eq (pe_ix (r := rIxT K) ix_tup (pv 11) pe_int (fun _ _ => rfl)) pe_str (nomark _)) (pw_and1 (pt_not (pt_val (pe_call (ok__law_resized_good T) (hr.mono (by decide)) rfl T.g_law_resized_good T.k_law_resized_good T.b_law_resized_good .nil pass0 (pa_cons (pv 4) (pa_cons (pv 11) (pa_cons (pv 5) (pa_cons (pv 6) (pa_cons (pv 7) pa_nil)))))))))))
      (pss_one (ps_ret pe_bl))
      pss_nil)))))))))))))))))
      (pss_one (ps_ret pe_bl))), ?_⟩
    walk_at "go"
    refine ⟨?_, ?_, ?_⟩
    · split <;> omega
    · rw [List.length_map]; split <;> omega
    refine for_range (lo := 0) (fun i σ H' => ∃ v1 v2 v3 v4 v5 v6 v7 v8 v9 v10 v11 : Option V, σ = [some (.ref a), v1, v2, v3, v4, v5, v6, v7, v8, v9, v10, v11] ∧ SqL K H' a (ns.map V.int)) ?_ ?_ ?_
    · exact ⟨_, _, _, _, _, _, _, _, _, _, _, rfl, by walk_at "sq"⟩
    · rintro i σ H1 hi ⟨v1, v2, v3, v4, v5, v6, v7, v8, v9, v10, v11, rfl, s1⟩
      refine ⟨_, rfl, _, rfl, a, ns, i, ?_, s1, ?_⟩
      · show [V.ref a, V.int (0 + (i : Int))] = [V.ref a, V.int (i : Int)]
        rw [Int.zero_add]
      have r0 := lawRow_nn ns i
      generalize lawRow ns i = row at r0
      walk_at "go"
      intro pa as H2 s2 hA
      generalize areasR row = rs at hA
      have fb := frm38_b row
      walk_at "go"
      rename_i pf hpf
      refine ⟨fun σ' H' => ∃ pw : Addr, σ' = [some (.ref a), some (.int (0 + (i : Int))), some (.int row), some (.ref pa), some (.ref pf), some (.ref pw), v6, v7, v8, v9, v10, v11] ∧ SqL K H' a (ns.map V.int) ∧ AreasAt K H' pa as rs ∧ SqT K H' pf (rv (frm38 row)) ∧ SqT K H' pw [.int (row / 19 % 81 - 40), .int (row / 23 % 81 - 40)], ?_, ?_⟩
      · have ef : SqT K (upd H2 pf (.tup [.int (row / 7 % 90 - 40), .int (row / 630 % 90 - 40), .int (20 + row / 13 % 60), .int (28 + row / 17 % 60)])) pf (rv (frm38 row)) := SqT.of upd_same
        walk_at "go"
        rename_i pw hpw
        exact ⟨(same_upd hpw).seq ((same_upd hpf).seq (s2.seq s1)), (hA.to (same_upd hpf)).to (same_upd hpw), (same_upd hpw).sqt ef, SqT.of upd_same⟩
      rintro σ' H3 ⟨pw, rfl, hs3, hA3, hf3, hw3⟩
      generalize frm38 row = f at fb hf3
      have hdx : -40 ≤ row / 19 % 81 - 40 ∧ row / 19 % 81 - 40 ≤ 40 := by omega
      generalize row / 19 % 81 - 40 = dx at hw3 hdx
      generalize row / 23 % 81 - 40 = dy at hw3
      refine ⟨_, rfl, _, rfl, _, _, as, rs, f, rfl, hA3, hf3, fun H4 s4 => ?_⟩
      have hA4 := hA3.to s4
      have hf4 := s4.sqt hf3
      have hw4 := s4.sqt hw3
      have hs4 := s4.seq hs3
      refine ⟨_, rfl, _, rfl, _, _, as, rs, f, rfl, hA4, hf4, by omega, ?_⟩
      walk_at "go"
      refine iteNe' (fun h => absurd rfl h) fun _ => ?_
      walk_at "go"
      refine ⟨_, _, as, rs, f, dx, dy, rfl, hA4, hf4, fun p5 H5 s5 e5 => ?_⟩
      have hA5 := hA4.to s5
      have hf5 := s5.sqt hf4
      have hw5 := s5.sqt hw4
      have hs5 := s5.seq hs4
      walk_at "go"
      refine ⟨_, _, as, rs, f, dx, dy, rfl, hA5, hf5, by omega, fun p6 H6 s6 e6 => ?_⟩
      have hf6 := s6.sqt hf5
      have hw6 := s6.sqt hw5
      have hs6 := s6.seq hs5
      refine t_ne (dp_rc (s6.sqt e5)) (dp_rc e6) (by walk_at "sh") (by walk_at "sh") ⟨_, rfl, ne_self (by walk_at "sh") rfl ?_⟩
      walk_at "go"
      refine ⟨fun σ' H' => ∃ pl pg : Addr, σ' = [some (.ref a), some (.int (0 + (i : Int))), some (.int row), some (.ref pa), some (.ref pf), some (.ref pw), some (.ref pl), some (.ref pg), v8, v9, v10, v11] ∧ SqL K H' a (ns.map V.int) ∧ SqT K H' pf (rv f) ∧ SqT K H' pw [.int dx, .int dy] ∧ ∃ l0 l1 g0 g1 : Int, SqT K H' pl [.int l0, .int l1] ∧ SqT K H' pg [.int g0, .int g1] ∧ 0 ≤ g0 ∧ 0 ≤ g1, ?_, ?_⟩
      · walk_at "go"
        first
          | exact ⟨_, _, rfl, by walk_at "sq", by walk_at "sq", by walk_at "sq", _, _, _, _, by walk_at "sq", SqT.of upd_same, by show 0 ≤ row / 37 % 3 * 30; omega, by show 0 ≤ row / 41 % 3 * 30; omega⟩
          | exact ⟨by walk_at "sq", by walk_at "sq", by walk_at "sq", _, _, _, _, by walk_at "sq", SqT.of upd_same, by show 0 ≤ row / 37 % 3 * 30; omega, by show 0 ≤ row / 41 % 3 * 30; omega⟩
      clear hA3 hf3 hw3 hs3 hA4 hf4 hw4 hs4 hA5 hf5 hw5 hs5 hf6 hw6 hs6 e5 e6 s4 s5 s6
      rintro σ' H7 ⟨pl, pg, rfl, hs7, hf7, hw7, l0, l1, g0, g1, hl7, hg7, hg0, hg1⟩
      refine ⟨_, rfl, by decide, by decide, for_range (lo := 0) (fun j σ H' => ∃ v8 v9 v10 v11 : Option V, σ = [some (.ref a), some (.int (0 + (i : Int))), some (.int row), some (.ref pa), some (.ref pf), some (.ref pw), some (.ref pl), some (.ref pg), v8, v9, v10, v11] ∧ Same H7 H') ⟨_, _, _, _, rfl, Same.refl _⟩ ?_ ?_⟩
      · rintro j σ H8 hj ⟨v8, v9, v10, v11, rfl, s8⟩
        have hf8 := s8.sqt hf7
        have hw8 := s8.sqt hw7
        have hl8 := s8.sqt hl7
        have hg8 := s8.sqt hg7
        have hj12 : j < 12 := by
          have : (12 : Int).toNat = 12 := rfl
          omega
        walk_at "go"
        refine ⟨(⟨by omega, by omega⟩ : CDiv _ _), ?_⟩
        walk_at "go"
        refine ⟨by show 0 < f.w; omega, ?_⟩
        walk_at "go"
        refine ⟨(⟨by omega, by omega⟩ : CDiv _ _), ?_⟩
        walk_at "go"
        refine ⟨by show 0 < f.h; omega, ?_⟩
        have hx : f.x + row / (0 + (j : Int) + 1) % f.w < f.x + f.w := by
          have := Int.emod_lt_of_pos (row / (0 + (j : Int) + 1)) (show 0 < f.w by omega)
          omega
        generalize hxx : f.x + row / (0 + (j : Int) + 1) % f.w = x at hx
        generalize hyy : f.y + row / (0 + (j : Int) + 3) % f.h = y
        refine ⟨_, _, rfl, rfl, ?_⟩
        refine ⟨_, rfl, _, rfl, _, rfl, _, f, x, y, by rw [← hxx, ← hyy]; rfl, hf8, hx, ?_⟩
        obtain ⟨nm, hz, vt, ep, hk, hzz, hvv⟩ := part_shape f x y
        rw [ep]
        intro p9 H9 s9 e9
        have hf9 := s9.sqt hf8
        have hw9 := s9.sqt hw8
        have hl9 := s9.sqt hl8
        have hg9 := s9.sqt hg8
        refine ⟨_, rfl, _, rfl, _, rfl, _, f, x, y, by rw [← hxx, ← hyy]; rfl, hf9, ?_⟩
        rw [ep]
        intro p10 H10 s10 e10
        have hf10 := s10.sqt hf9
        have hw10 := s10.sqt hw9
        have hl10 := s10.sqt hl9
        have hg10 := s10.sqt hg9
        have e9' := SqT.of (K := K) (s10 _ _ e9)
        have sA := (s8.trans s9).trans s10
        clear hf8 hw8 hl8 hg8 hf9 hw9 hl9 hg9
        refine ⟨_, rfl, ?_⟩
        refine t_ne (dp_part (SqT.of e10)) (dp_part e9') (sh_part hk) (sh_part hk) ⟨_, rfl, ne_self (sh_part hk) rfl ?_⟩
        walk_at "go"
        refine if_b (fun h1 => ?_) (fun h1 => ?_)
        · walk_at "go"
          refine ⟨_, _, _, _, _, f, .str nm, hz, vt, dx, dy, l0, l1, g0, g1, rfl, hf10, e9', hw10, hl10, hg10, ⟨hzz, hvv, hg0, hg1⟩, fun H11 s11 => ?_⟩
          walk_at "go"
          exact sA.trans s11
        · exact ⟨_, _, _, _, rfl, sA⟩
      · rintro σ H8 ⟨v8, v9, v10, v11, rfl, s8⟩
        exact ⟨_, _, _, _, _, _, _, _, _, _, _, rfl, s8.seq hs7⟩
    · rintro σ H' ⟨v1, v2, v3, v4, v5, v6, v7, v8, v9, v10, v11, rfl, s1⟩
      exact q _
end
theorem all_mk {K : PySem.W.Frag} {h : Heap} {mg : Str → Option Value} {fa : Addr} (X : K.In h) (G : h.Ns mainGlobals mg) (hfa : mg "law" = some (.ref fa))
    {foverlap : Addr} {od1 an1 : Option Addr} {sl1 : Array (Option Value)} {oc1 kV1 dc1 pm1 cd1 ct1 : Value}
    {foverlap_axis : Addr} {od2 an2 : Option Addr} {sl2 : Array (Option Value)} {oc2 kV2 dc2 pm2 cd2 ct2 : Value}
    {finside_of : Addr} {od3 an3 : Option Addr} {sl3 : Array (Option Value)} {oc3 kV3 dc3 pm3 cd3 ct3 : Value}
    {fframe_of : Addr} {od4 an4 : Option Addr} {sl4 : Array (Option Value)} {oc4 kV4 dc4 pm4 cd4 ct4 : Value}
    {fcan_be_caught : Addr} {od5 an5 : Option Addr} {sl5 : Array (Option Value)} {oc5 kV5 dc5 pm5 cd5 ct5 : Value}
    {fpart_at : Addr} {od6 an6 : Option Addr} {sl6 : Array (Option Value)} {oc6 kV6 dc6 pm6 cd6 ct6 : Value}
    {fmoved_frame : Addr} {od7 an7 : Option Addr} {sl7 : Array (Option Value)} {oc7 kV7 dc7 pm7 cd7 ct7 : Value}
    {fresized_frame : Addr} {od8 an8 : Option Addr} {sl8 : Array (Option Value)} {oc8 kV8 dc8 pm8 cd8 ct8 : Value}
    {f_button_at : Addr} {od9 an9 : Option Addr} {sl9 : Array (Option Value)} {oc9 kV9 dc9 pm9 cd9 ct9 : Value}
    {f_kept_length : Addr} {od10 an10 : Option Addr} {sl10 : Array (Option Value)} {oc10 kV10 dc10 pm10 cd10 ct10 : Value}
    {f_law_cell : Addr} {od11 an11 : Option Addr} {sl11 : Array (Option Value)} {oc11 kV11 dc11 pm11 cd11 ct11 : Value}
    {f_law_row : Addr} {od12 an12 : Option Addr} {sl12 : Array (Option Value)} {oc12 kV12 dc12 pm12 cd12 ct12 : Value}
    {f_law_areas : Addr} {od13 an13 : Option Addr} {sl13 : Array (Option Value)} {oc13 kV13 dc13 pm13 cd13 ct13 : Value}
    {f_law_caught : Addr} {od14 an14 : Option Addr} {sl14 : Array (Option Value)} {oc14 kV14 dc14 pm14 cd14 ct14 : Value}
    {f_law_moved : Addr} {od15 an15 : Option Addr} {sl15 : Array (Option Value)} {oc15 kV15 dc15 pm15 cd15 ct15 : Value}
    {f_law_length : Addr} {od16 an16 : Option Addr} {sl16 : Array (Option Value)} {oc16 kV16 dc16 pm16 cd16 ct16 : Value}
    {f_law_resized_good : Addr} {od17 an17 : Option Addr} {sl17 : Array (Option Value)} {oc17 kV17 dc17 pm17 cd17 ct17 : Value}
    {f_law_part : Addr} {od18 an18 : Option Addr} {sl18 : Array (Option Value)} {oc18 kV18 dc18 pm18 cd18 ct18 : Value}
    {flaw : Addr} {od19 an19 : Option Addr} {sl19 : Array (Option Value)} {oc19 kV19 dc19 pm19 cd19 ct19 : Value}
    {tBORDER : Tok}
    {tTITLE_BAR : Tok}
    {tLEAST_SIDE : Tok}
    {tLONGEST_SIDE : Tok}
    {tCAUGHT_COLUMNS : Tok}
    {tGRIP : Tok}
    (a1 : PySem.W.nsIn K mainGlobals "overlap" = some (some (.ref foverlap)))
    (l1 : K.lookup foverlap = some ⟨oc1, od1, .func (PySem.W.fnOf "overlap" "overlap" (defArgs s_overlap) (defBody s_overlap) (defScope s_overlap) .none kV1 dc1 pm1 an1 cd1 ct1), sl1⟩) (c1 : PySem.W.codeIn K cd1 "overlap" = true) (k1 : PySem.W.keepIn K (.ref foverlap) = true)
    (a2 : PySem.W.nsIn K mainGlobals "overlap_axis" = some (some (.ref foverlap_axis)))
    (l2 : K.lookup foverlap_axis = some ⟨oc2, od2, .func (PySem.W.fnOf "overlap_axis" "overlap_axis" (defArgs s_overlap_axis) (defBody s_overlap_axis) (defScope s_overlap_axis) .none kV2 dc2 pm2 an2 cd2 ct2), sl2⟩) (c2 : PySem.W.codeIn K cd2 "overlap_axis" = true) (k2 : PySem.W.keepIn K (.ref foverlap_axis) = true)
    (a3 : PySem.W.nsIn K mainGlobals "inside_of" = some (some (.ref finside_of)))
    (l3 : K.lookup finside_of = some ⟨oc3, od3, .func (PySem.W.fnOf "inside_of" "inside_of" (defArgs s_inside_of) (defBody s_inside_of) (defScope s_inside_of) .none kV3 dc3 pm3 an3 cd3 ct3), sl3⟩) (c3 : PySem.W.codeIn K cd3 "inside_of" = true) (k3 : PySem.W.keepIn K (.ref finside_of) = true)
    (a4 : PySem.W.nsIn K mainGlobals "frame_of" = some (some (.ref fframe_of)))
    (l4 : K.lookup fframe_of = some ⟨oc4, od4, .func (PySem.W.fnOf "frame_of" "frame_of" (defArgs s_frame_of) (defBody s_frame_of) (defScope s_frame_of) .none kV4 dc4 pm4 an4 cd4 ct4), sl4⟩) (c4 : PySem.W.codeIn K cd4 "frame_of" = true) (k4 : PySem.W.keepIn K (.ref fframe_of) = true)
    (a5 : PySem.W.nsIn K mainGlobals "can_be_caught" = some (some (.ref fcan_be_caught)))
    (l5 : K.lookup fcan_be_caught = some ⟨oc5, od5, .func (PySem.W.fnOf "can_be_caught" "can_be_caught" (defArgs s_can_be_caught) (defBody s_can_be_caught) (defScope s_can_be_caught) .none kV5 dc5 pm5 an5 cd5 ct5), sl5⟩) (c5 : PySem.W.codeIn K cd5 "can_be_caught" = true) (k5 : PySem.W.keepIn K (.ref fcan_be_caught) = true)
    (a6 : PySem.W.nsIn K mainGlobals "part_at" = some (some (.ref fpart_at)))
    (l6 : K.lookup fpart_at = some ⟨oc6, od6, .func (PySem.W.fnOf "part_at" "part_at" (defArgs s_part_at) (defBody s_part_at) (defScope s_part_at) .none kV6 dc6 pm6 an6 cd6 ct6), sl6⟩) (c6 : PySem.W.codeIn K cd6 "part_at" = true) (k6 : PySem.W.keepIn K (.ref fpart_at) = true)
    (a7 : PySem.W.nsIn K mainGlobals "moved_frame" = some (some (.ref fmoved_frame)))
    (l7 : K.lookup fmoved_frame = some ⟨oc7, od7, .func (PySem.W.fnOf "moved_frame" "moved_frame" (defArgs s_moved_frame) (defBody s_moved_frame) (defScope s_moved_frame) .none kV7 dc7 pm7 an7 cd7 ct7), sl7⟩) (c7 : PySem.W.codeIn K cd7 "moved_frame" = true) (k7 : PySem.W.keepIn K (.ref fmoved_frame) = true)
    (a8 : PySem.W.nsIn K mainGlobals "resized_frame" = some (some (.ref fresized_frame)))
    (l8 : K.lookup fresized_frame = some ⟨oc8, od8, .func (PySem.W.fnOf "resized_frame" "resized_frame" (defArgs s_resized_frame) (defBody s_resized_frame) (defScope s_resized_frame) .none kV8 dc8 pm8 an8 cd8 ct8), sl8⟩) (c8 : PySem.W.codeIn K cd8 "resized_frame" = true) (k8 : PySem.W.keepIn K (.ref fresized_frame) = true)
    (a9 : PySem.W.nsIn K mainGlobals "_button_at" = some (some (.ref f_button_at)))
    (l9 : K.lookup f_button_at = some ⟨oc9, od9, .func (PySem.W.fnOf "_button_at" "_button_at" (defArgs s__button_at) (defBody s__button_at) (defScope s__button_at) .none kV9 dc9 pm9 an9 cd9 ct9), sl9⟩) (c9 : PySem.W.codeIn K cd9 "_button_at" = true) (k9 : PySem.W.keepIn K (.ref f_button_at) = true)
    (a10 : PySem.W.nsIn K mainGlobals "_kept_length" = some (some (.ref f_kept_length)))
    (l10 : K.lookup f_kept_length = some ⟨oc10, od10, .func (PySem.W.fnOf "_kept_length" "_kept_length" (defArgs s__kept_length) (defBody s__kept_length) (defScope s__kept_length) .none kV10 dc10 pm10 an10 cd10 ct10), sl10⟩) (c10 : PySem.W.codeIn K cd10 "_kept_length" = true) (k10 : PySem.W.keepIn K (.ref f_kept_length) = true)
    (a11 : PySem.W.nsIn K mainGlobals "_law_cell" = some (some (.ref f_law_cell)))
    (l11 : K.lookup f_law_cell = some ⟨oc11, od11, .func (PySem.W.fnOf "_law_cell" "_law_cell" (defArgs s__law_cell) (defBody s__law_cell) (defScope s__law_cell) .none kV11 dc11 pm11 an11 cd11 ct11), sl11⟩) (c11 : PySem.W.codeIn K cd11 "_law_cell" = true) (k11 : PySem.W.keepIn K (.ref f_law_cell) = true)
    (a12 : PySem.W.nsIn K mainGlobals "_law_row" = some (some (.ref f_law_row)))
    (l12 : K.lookup f_law_row = some ⟨oc12, od12, .func (PySem.W.fnOf "_law_row" "_law_row" (defArgs s__law_row) (defBody s__law_row) (defScope s__law_row) .none kV12 dc12 pm12 an12 cd12 ct12), sl12⟩) (c12 : PySem.W.codeIn K cd12 "_law_row" = true) (k12 : PySem.W.keepIn K (.ref f_law_row) = true)
    (a13 : PySem.W.nsIn K mainGlobals "_law_areas" = some (some (.ref f_law_areas)))
    (l13 : K.lookup f_law_areas = some ⟨oc13, od13, .func (PySem.W.fnOf "_law_areas" "_law_areas" (defArgs s__law_areas) (defBody s__law_areas) (defScope s__law_areas) .none kV13 dc13 pm13 an13 cd13 ct13), sl13⟩) (c13 : PySem.W.codeIn K cd13 "_law_areas" = true) (k13 : PySem.W.keepIn K (.ref f_law_areas) = true)
    (a14 : PySem.W.nsIn K mainGlobals "_law_caught" = some (some (.ref f_law_caught)))
    (l14 : K.lookup f_law_caught = some ⟨oc14, od14, .func (PySem.W.fnOf "_law_caught" "_law_caught" (defArgs s__law_caught) (defBody s__law_caught) (defScope s__law_caught) .none kV14 dc14 pm14 an14 cd14 ct14), sl14⟩) (c14 : PySem.W.codeIn K cd14 "_law_caught" = true) (k14 : PySem.W.keepIn K (.ref f_law_caught) = true)
    (a15 : PySem.W.nsIn K mainGlobals "_law_moved" = some (some (.ref f_law_moved)))
    (l15 : K.lookup f_law_moved = some ⟨oc15, od15, .func (PySem.W.fnOf "_law_moved" "_law_moved" (defArgs s__law_moved) (defBody s__law_moved) (defScope s__law_moved) .none kV15 dc15 pm15 an15 cd15 ct15), sl15⟩) (c15 : PySem.W.codeIn K cd15 "_law_moved" = true) (k15 : PySem.W.keepIn K (.ref f_law_moved) = true)
    (a16 : PySem.W.nsIn K mainGlobals "_law_length" = some (some (.ref f_law_length)))
    (l16 : K.lookup f_law_length = some ⟨oc16, od16, .func (PySem.W.fnOf "_law_length" "_law_length" (defArgs s__law_length) (defBody s__law_length) (defScope s__law_length) .none kV16 dc16 pm16 an16 cd16 ct16), sl16⟩) (c16 : PySem.W.codeIn K cd16 "_law_length" = true) (k16 : PySem.W.keepIn K (.ref f_law_length) = true)
    (a17 : PySem.W.nsIn K mainGlobals "_law_resized_good" = some (some (.ref f_law_resized_good)))
    (l17 : K.lookup f_law_resized_good = some ⟨oc17, od17, .func (PySem.W.fnOf "_law_resized_good" "_law_resized_good" (defArgs s__law_resized_good) (defBody s__law_resized_good) (defScope s__law_resized_good) .none kV17 dc17 pm17 an17 cd17 ct17), sl17⟩) (c17 : PySem.W.codeIn K cd17 "_law_resized_good" = true) (k17 : PySem.W.keepIn K (.ref f_law_resized_good) = true)
    (a18 : PySem.W.nsIn K mainGlobals "_law_part" = some (some (.ref f_law_part)))
    (l18 : K.lookup f_law_part = some ⟨oc18, od18, .func (PySem.W.fnOf "_law_part" "_law_part" (defArgs s__law_part) (defBody s__law_part) (defScope s__law_part) .none kV18 dc18 pm18 an18 cd18 ct18), sl18⟩) (c18 : PySem.W.codeIn K cd18 "_law_part" = true) (k18 : PySem.W.keepIn K (.ref f_law_part) = true)
    (a19 : PySem.W.nsIn K mainGlobals "law" = some (some (.ref flaw)))
    (l19 : K.lookup flaw = some ⟨oc19, od19, .func (PySem.W.fnOf "law" "law" (defArgs s_law) (defBody s_law) (defScope s_law) .none kV19 dc19 pm19 an19 cd19 ct19), sl19⟩) (c19 : PySem.W.codeIn K cd19 "law" = true) (k19 : PySem.W.keepIn K (.ref flaw) = true)
    (z_int : PySem.W.nsIn K mainGlobals "int" = some none)
    (z_len : PySem.W.nsIn K mainGlobals "len" = some none)
    (z_max : PySem.W.nsIn K mainGlobals "max" = some none)
    (z_min : PySem.W.nsIn K mainGlobals "min" = some none)
    (z_range : PySem.W.nsIn K mainGlobals "range" = some none)
    (q_BORDER : PySem.W.nsIn K mainGlobals "BORDER" = some (some (.int (2) tBORDER)))
    (q_TITLE_BAR : PySem.W.nsIn K mainGlobals "TITLE_BAR" = some (some (.int (10) tTITLE_BAR)))
    (q_LEAST_SIDE : PySem.W.nsIn K mainGlobals "LEAST_SIDE" = some (some (.int (16) tLEAST_SIDE)))
    (q_LONGEST_SIDE : PySem.W.nsIn K mainGlobals "LONGEST_SIDE" = some (some (.int (4096) tLONGEST_SIDE)))
    (q_CAUGHT_COLUMNS : PySem.W.nsIn K mainGlobals "CAUGHT_COLUMNS" = some (some (.int (16) tCAUGHT_COLUMNS)))
    (q_GRIP : PySem.W.nsIn K mainGlobals "GRIP" = some (some (.int (10) tGRIP)))
    : ∃ A : Adr, A.flaw = fa ∧ Txt K mg A ∧ (∀ (s : Shared) (v : Value), BindsTo s A.dlaw ⟨[v], []⟩ [("script", v)]) := by
  have e := hfa.symm.trans (PySem.W.mg_of X G a19)
  cases e
  have F1 := fun_mk (st := s_overlap) l1 c1 k1
  have b1 := F1.binds (ps := ["a", "b"]) fun _ _ _ _ _ _ us hl => match us, hl with | [_, _], _ => rfl
  have F2 := fun_mk (st := s_overlap_axis) l2 c2 k2
  have b2 := F2.binds (ps := ["begin", "length", "other_begin", "other_length"]) fun _ _ _ _ _ _ us hl => match us, hl with | [_, _, _, _], _ => rfl
  have F3 := fun_mk (st := s_inside_of) l3 c3 k3
  have b3 := F3.binds (ps := ["frame"]) fun _ _ _ _ _ _ us hl => match us, hl with | [_], _ => rfl
  have F4 := fun_mk (st := s_frame_of) l4 c4 k4
  have b4 := F4.binds (ps := ["inside"]) fun _ _ _ _ _ _ us hl => match us, hl with | [_], _ => rfl
  have F5 := fun_mk (st := s_can_be_caught) l5 c5 k5
  have b5 := F5.binds (ps := ["areas", "frame"]) fun _ _ _ _ _ _ us hl => match us, hl with | [_, _], _ => rfl
  have F6 := fun_mk (st := s_part_at) l6 c6 k6
  have b6 := F6.binds (ps := ["frame", "x", "y"]) fun _ _ _ _ _ _ us hl => match us, hl with | [_, _, _], _ => rfl
  have F7 := fun_mk (st := s_moved_frame) l7 c7 k7
  have b7 := F7.binds (ps := ["areas", "frame", "dx", "dy"]) fun _ _ _ _ _ _ us hl => match us, hl with | [_, _, _, _], _ => rfl
  have F8 := fun_mk (st := s_resized_frame) l8 c8 k8
  have b8 := F8.binds (ps := ["frame", "part", "dx", "dy", "least", "largest"]) fun _ _ _ _ _ _ us hl => match us, hl with | [_, _, _, _, _, _], _ => rfl
  have F9 := fun_mk (st := s__button_at) l9 c9 k9
  have b9 := F9.binds (ps := ["from_right"]) fun _ _ _ _ _ _ us hl => match us, hl with | [_], _ => rfl
  have F10 := fun_mk (st := s__kept_length) l10 c10 k10
  have b10 := F10.binds (ps := ["length", "least", "largest"]) fun _ _ _ _ _ _ us hl => match us, hl with | [_, _, _], _ => rfl
  have F11 := fun_mk (st := s__law_cell) l11 c11 k11
  have b11 := F11.binds (ps := ["script", "k"]) fun _ _ _ _ _ _ us hl => match us, hl with | [_, _], _ => rfl
  have F12 := fun_mk (st := s__law_row) l12 c12 k12
  have b12 := F12.binds (ps := ["script", "k"]) fun _ _ _ _ _ _ us hl => match us, hl with | [_, _], _ => rfl
  have F13 := fun_mk (st := s__law_areas) l13 c13 k13
  have b13 := F13.binds (ps := ["row"]) fun _ _ _ _ _ _ us hl => match us, hl with | [_], _ => rfl
  have F14 := fun_mk (st := s__law_caught) l14 c14 k14
  have b14 := F14.binds (ps := ["areas", "frame"]) fun _ _ _ _ _ _ us hl => match us, hl with | [_, _], _ => rfl
  have F15 := fun_mk (st := s__law_moved) l15 c15 k15
  have b15 := F15.binds (ps := ["areas", "frame", "dx", "dy"]) fun _ _ _ _ _ _ us hl => match us, hl with | [_, _, _, _], _ => rfl
  have F16 := fun_mk (st := s__law_length) l16 c16 k16
  have b16 := F16.binds (ps := ["length", "least", "largest"]) fun _ _ _ _ _ _ us hl => match us, hl with | [_, _, _], _ => rfl
  have F17 := fun_mk (st := s__law_resized_good) l17 c17 k17
  have b17 := F17.binds (ps := ["frame", "part", "way", "least", "largest"]) fun _ _ _ _ _ _ us hl => match us, hl with | [_, _, _, _, _], _ => rfl
  have F18 := fun_mk (st := s__law_part) l18 c18 k18
  have b18 := F18.binds (ps := ["frame", "x", "y"]) fun _ _ _ _ _ _ us hl => match us, hl with | [_, _, _], _ => rfl
  have F19 := fun_mk (st := s_law) l19 c19 k19
  have b19 := F19.binds (ps := ["script"]) fun _ _ _ _ _ _ us hl => match us, hl with | [_], _ => rfl
  refine ⟨{ foverlap := foverlap, doverlap := (PySem.W.fnOf "overlap" "overlap" (defArgs s_overlap) (defBody s_overlap) (defScope s_overlap) .none kV1 dc1 pm1 an1 cd1 ct1), foverlap_axis := foverlap_axis, doverlap_axis := (PySem.W.fnOf "overlap_axis" "overlap_axis" (defArgs s_overlap_axis) (defBody s_overlap_axis) (defScope s_overlap_axis) .none kV2 dc2 pm2 an2 cd2 ct2), finside_of := finside_of, dinside_of := (PySem.W.fnOf "inside_of" "inside_of" (defArgs s_inside_of) (defBody s_inside_of) (defScope s_inside_of) .none kV3 dc3 pm3 an3 cd3 ct3), fframe_of := fframe_of, dframe_of := (PySem.W.fnOf "frame_of" "frame_of" (defArgs s_frame_of) (defBody s_frame_of) (defScope s_frame_of) .none kV4 dc4 pm4 an4 cd4 ct4), fcan_be_caught := fcan_be_caught, dcan_be_caught := (PySem.W.fnOf "can_be_caught" "can_be_caught" (defArgs s_can_be_caught) (defBody s_can_be_caught) (defScope s_can_be_caught) .none kV5 dc5 pm5 an5 cd5 ct5), fpart_at := fpart_at, dpart_at := (PySem.W.fnOf "part_at" "part_at" (defArgs s_part_at) (defBody s_part_at) (defScope s_part_at) .none kV6 dc6 pm6 an6 cd6 ct6), fmoved_frame := fmoved_frame, dmoved_frame := (PySem.W.fnOf "moved_frame" "moved_frame" (defArgs s_moved_frame) (defBody s_moved_frame) (defScope s_moved_frame) .none kV7 dc7 pm7 an7 cd7 ct7), fresized_frame := fresized_frame, dresized_frame := (PySem.W.fnOf "resized_frame" "resized_frame" (defArgs s_resized_frame) (defBody s_resized_frame) (defScope s_resized_frame) .none kV8 dc8 pm8 an8 cd8 ct8), f_button_at := f_button_at, d_button_at := (PySem.W.fnOf "_button_at" "_button_at" (defArgs s__button_at) (defBody s__button_at) (defScope s__button_at) .none kV9 dc9 pm9 an9 cd9 ct9), f_kept_length := f_kept_length, d_kept_length := (PySem.W.fnOf "_kept_length" "_kept_length" (defArgs s__kept_length) (defBody s__kept_length) (defScope s__kept_length) .none kV10 dc10 pm10 an10 cd10 ct10), f_law_cell := f_law_cell, d_law_cell := (PySem.W.fnOf "_law_cell" "_law_cell" (defArgs s__law_cell) (defBody s__law_cell) (defScope s__law_cell) .none kV11 dc11 pm11 an11 cd11 ct11), f_law_row := f_law_row, d_law_row := (PySem.W.fnOf "_law_row" "_law_row" (defArgs s__law_row) (defBody s__law_row) (defScope s__law_row) .none kV12 dc12 pm12 an12 cd12 ct12), f_law_areas := f_law_areas, d_law_areas := (PySem.W.fnOf "_law_areas" "_law_areas" (defArgs s__law_areas) (defBody s__law_areas) (defScope s__law_areas) .none kV13 dc13 pm13 an13 cd13 ct13), f_law_caught := f_law_caught, d_law_caught := (PySem.W.fnOf "_law_caught" "_law_caught" (defArgs s__law_caught) (defBody s__law_caught) (defScope s__law_caught) .none kV14 dc14 pm14 an14 cd14 ct14), f_law_moved := f_law_moved, d_law_moved := (PySem.W.fnOf "_law_moved" "_law_moved" (defArgs s__law_moved) (defBody s__law_moved) (defScope s__law_moved) .none kV15 dc15 pm15 an15 cd15 ct15), f_law_length := f_law_length, d_law_length := (PySem.W.fnOf "_law_length" "_law_length" (defArgs s__law_length) (defBody s__law_length) (defScope s__law_length) .none kV16 dc16 pm16 an16 cd16 ct16), f_law_resized_good := f_law_resized_good, d_law_resized_good := (PySem.W.fnOf "_law_resized_good" "_law_resized_good" (defArgs s__law_resized_good) (defBody s__law_resized_good) (defScope s__law_resized_good) .none kV17 dc17 pm17 an17 cd17 ct17), f_law_part := f_law_part, d_law_part := (PySem.W.fnOf "_law_part" "_law_part" (defArgs s__law_part) (defBody s__law_part) (defScope s__law_part) .none kV18 dc18 pm18 an18 cd18 ct18), flaw := fa, dlaw := (PySem.W.fnOf "law" "law" (defArgs s_law) (defBody s_law) (defScope s_law) .none kV19 dc19 pm19 an19 cd19 ct19), tBORDER := tBORDER, tTITLE_BAR := tTITLE_BAR, tLEAST_SIDE := tLEAST_SIDE, tLONGEST_SIDE := tLONGEST_SIDE, tCAUGHT_COLUMNS := tCAUGHT_COLUMNS, tGRIP := tGRIP }, rfl, { Foverlap := F1, boverlap := b1, goverlap := PySem.W.mg_of X G a1, koverlap := k1, Foverlap_axis := F2, boverlap_axis := b2, goverlap_axis := PySem.W.mg_of X G a2, koverlap_axis := k2, Finside_of := F3, binside_of := b3, ginside_of := PySem.W.mg_of X G a3, kinside_of := k3, Fframe_of := F4, bframe_of := b4, gframe_of := PySem.W.mg_of X G a4, kframe_of := k4, Fcan_be_caught := F5, bcan_be_caught := b5, gcan_be_caught := PySem.W.mg_of X G a5, kcan_be_caught := k5, Fpart_at := F6, bpart_at := b6, gpart_at := PySem.W.mg_of X G a6, kpart_at := k6, Fmoved_frame := F7, bmoved_frame := b7, gmoved_frame := PySem.W.mg_of X G a7, kmoved_frame := k7, Fresized_frame := F8, bresized_frame := b8, gresized_frame := PySem.W.mg_of X G a8, kresized_frame := k8, F_button_at := F9, b_button_at := b9, g_button_at := PySem.W.mg_of X G a9, k_button_at := k9, F_kept_length := F10, b_kept_length := b10, g_kept_length := PySem.W.mg_of X G a10, k_kept_length := k10, F_law_cell := F11, b_law_cell := b11, g_law_cell := PySem.W.mg_of X G a11, k_law_cell := k11, F_law_row := F12, b_law_row := b12, g_law_row := PySem.W.mg_of X G a12, k_law_row := k12, F_law_areas := F13, b_law_areas := b13, g_law_areas := PySem.W.mg_of X G a13, k_law_areas := k13, F_law_caught := F14, b_law_caught := b14, g_law_caught := PySem.W.mg_of X G a14, k_law_caught := k14, F_law_moved := F15, b_law_moved := b15, g_law_moved := PySem.W.mg_of X G a15, k_law_moved := k15, F_law_length := F16, b_law_length := b16, g_law_length := PySem.W.mg_of X G a16, k_law_length := k16, F_law_resized_good := F17, b_law_resized_good := b17, g_law_resized_good := PySem.W.mg_of X G a17, k_law_resized_good := k17, F_law_part := F18, b_law_part := b18, g_law_part := PySem.W.mg_of X G a18, k_law_part := k18, Flaw := F19, blaw := b19, glaw := PySem.W.mg_of X G a19, klaw := k19, int := PySem.W.mg_none_of X G z_int, len := PySem.W.mg_none_of X G z_len, max := PySem.W.mg_none_of X G z_max, min := PySem.W.mg_none_of X G z_min, range := PySem.W.mg_none_of X G z_range, gBORDER := PySem.W.mg_of X G q_BORDER, gTITLE_BAR := PySem.W.mg_of X G q_TITLE_BAR, gLEAST_SIDE := PySem.W.mg_of X G q_LEAST_SIDE, gLONGEST_SIDE := PySem.W.mg_of X G q_LONGEST_SIDE, gCAUGHT_COLUMNS := PySem.W.mg_of X G q_CAUGHT_COLUMNS, gGRIP := PySem.W.mg_of X G q_GRIP }, fun s v => .of_eq rfl⟩
theorem walk {l : PySem.W.OpenLaw} {q : Program} {loose : List Str} {XP : (Str → Option Value) → Heap → Prop} {YP : World → Heap → Prop} {d : DefRec} {K : Params → PySem.W.Frag} (hn : l.most = some 63) (hdf : d.params.defaults = [])
    (hY : ∀ (w : World) (h : Heap), YP w h → (K w.params).In h)
    (F : ∀ (w : World) (mg : Str → Option Value) (fa : Addr) (h : Heap), (K w.params).In h → h.Ns mainGlobals mg → mg d.name = some (.ref fa) →
      ∃ A : Adr, A.flaw = fa ∧ Txt (K w.params) mg A ∧ (∀ (s : Shared) (v : Value), BindsTo s A.dlaw ⟨[v], []⟩ [("script", v)])) :
    PySem.W.WalkO q loose XP YP l.row.toRowW d [] (fun f vs => PySem.call f vs) :=
  L2.walk_of (n := 63) (k := 5) (x := "script") (CX := fun _ => CX0) (sp := fun w => sp_law (K w.params)) hn (by decide) hdf ⟨rfl, by decide, by decide⟩ hY (fun w mg fa h X G hfa => by
    obtain ⟨A, rfl, T, b⟩ := F w mg fa h X G hfa
    exact ⟨A.dlaw, b, fun base _ _ => ok_law T⟩) (fun _ _ a ns hl _ hS => ⟨a, ns, rfl, hS, hl, fun _ => rfl⟩) fun _ _ _ _ _ z => z
end My
open PySem PySem.W PyProof.Rows
set_option maxRecDepth 100000 in
set_option maxHeartbeats 0 in
theorem PySem.Challenge.cw_sillwatch_k38_frames_moved_holds : PySem.Challenge.rw_sillwatch_k38_frames_moved.Holds := by
  w_on; o_law; k_head; (case hw => w_witness2)
  k_fill
  refine My.walk (l := PySem.Challenge.rw_sillwatch_k38_frames_moved) rfl rfl (fun w h Y => PySem.W.kIn_of Y) ?F
  case F =>
    intro w mg fa h KX G hmg
    refine' My.all_mk KX G hmg ?a1 ?l1 ?c1 ?k1 ?a2 ?l2 ?c2 ?k2 ?a3 ?l3 ?c3 ?k3 ?a4 ?l4 ?c4 ?k4 ?a5 ?l5 ?c5 ?k5 ?a6 ?l6 ?c6 ?k6 ?a7 ?l7 ?c7 ?k7 ?a8 ?l8 ?c8 ?k8 ?a9 ?l9 ?c9 ?k9 ?a10 ?l10 ?c10 ?k10 ?a11 ?l11 ?c11 ?k11 ?a12 ?l12 ?c12 ?k12 ?a13 ?l13 ?c13 ?k13 ?a14 ?l14 ?c14 ?k14 ?a15 ?l15 ?c15 ?k15 ?a16 ?l16 ?c16 ?k16 ?a17 ?l17 ?c17 ?k17 ?a18 ?l18 ?c18 ?k18 ?a19 ?l19 ?c19 ?k19 ?z_int ?z_len ?z_max ?z_min ?z_range ?q_BORDER ?q_TITLE_BAR ?q_LEAST_SIDE ?q_LONGEST_SIDE ?q_CAUGHT_COLUMNS ?q_GRIP
    (case a1 => k_is)
    (case l1 => k_is)
    (case c1 => k_is)
    (case k1 => k_is)
    (case a2 => k_is)
    (case l2 => k_is)
    (case c2 => k_is)
    (case k2 => k_is)
    (case a3 => k_is)
    (case l3 => k_is)
    (case c3 => k_is)
    (case k3 => k_is)
    (case a4 => k_is)
    (case l4 => k_is)
    (case c4 => k_is)
    (case k4 => k_is)
    (case a5 => k_is)
    (case l5 => k_is)
    (case c5 => k_is)
    (case k5 => k_is)
    (case a6 => k_is)
    (case l6 => k_is)
    (case c6 => k_is)
    (case k6 => k_is)
    (case a7 => k_is)
    (case l7 => k_is)
    (case c7 => k_is)
    (case k7 => k_is)
    (case a8 => k_is)
    (case l8 => k_is)
    (case c8 => k_is)
    (case k8 => k_is)
    (case a9 => k_is)
    (case l9 => k_is)
    (case c9 => k_is)
    (case k9 => k_is)
    (case a10 => k_is)
    (case l10 => k_is)
    (case c10 => k_is)
    (case k10 => k_is)
    (case a11 => k_is)
    (case l11 => k_is)
    (case c11 => k_is)
    (case k11 => k_is)
    (case a12 => k_is)
    (case l12 => k_is)
    (case c12 => k_is)
    (case k12 => k_is)
    (case a13 => k_is)
    (case l13 => k_is)
    (case c13 => k_is)
    (case k13 => k_is)
    (case a14 => k_is)
    (case l14 => k_is)
    (case c14 => k_is)
    (case k14 => k_is)
    (case a15 => k_is)
    (case l15 => k_is)
    (case c15 => k_is)
    (case k15 => k_is)
    (case a16 => k_is)
    (case l16 => k_is)
    (case c16 => k_is)
    (case k16 => k_is)
    (case a17 => k_is)
    (case l17 => k_is)
    (case c17 => k_is)
    (case k17 => k_is)
    (case a18 => k_is)
    (case l18 => k_is)
    (case c18 => k_is)
    (case k18 => k_is)
    (case a19 => k_is)
    (case l19 => k_is)
    (case c19 => k_is)
    (case k19 => k_is)
    (case z_int => k_is)
    (case z_len => k_is)
    (case z_max => k_is)
    (case z_min => k_is)
    (case z_range => k_is)
    (case q_BORDER => k_is)
    (case q_TITLE_BAR => k_is)
    (case q_LEAST_SIDE => k_is)
    (case q_LONGEST_SIDE => k_is)
    (case q_CAUGHT_COLUMNS => k_is)
    (case q_GRIP => k_is)
