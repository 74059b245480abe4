import PyProof.Rows.All
import Wide.All
import OpenK.AllK
import Wide.FinOn
import HandS.ForMost
import HandS.Exc
import HandS.TryOnly
import HandS.ExcOwn
import HandS.WordsExc
import HandS.IsInst
import HandS.Wide
import HandS.Flow
import HandS.More
import HandS.Codes
import HandS.Walk
import HandS.TupLe
import HandS.WordsDict
import HandS.Conv
import HandS.TryMany
import HandS.ExcIs
import KE.KBits
import HandS.CallLocal
import HandS.Strs
import HandS.SetFor
import HandS.Set
import HandS.Property
import PySem.Challenge.RW_sillwatch_k26_whole_algebra
set_option Elab.async false
set_option linter.all false
set_option maxRecDepth 100000
set_option maxHeartbeats 4000000
namespace My
open PySem L2
def topS (i : Nat) : Stmt := PySem.Challenge.pw_sillwatch_k26_whole_algebra.main.body.getD i (.Pass ⟨0, 0, 0, 0⟩)
abbrev s_rectangle_region : Stmt := topS 1
abbrev s_united : Stmt := topS 2
abbrev s_common : Stmt := topS 3
abbrev s_without : Stmt := topS 4
abbrev s_shifted : Stmt := topS 5
abbrev s_has_square : Stmt := topS 6
abbrev s__either : Stmt := topS 7
abbrev s__first_alone : Stmt := topS 8
abbrev s__combined : Stmt := topS 9
abbrev s__combined_spans : Stmt := topS 10
abbrev s__common_spans : Stmt := topS 11
abbrev s__spans_of : Stmt := topS 12
abbrev s__pieces : Stmt := topS 13
abbrev s__first_ending_behind : Stmt := topS 14
abbrev s__row_from : Stmt := topS 15
abbrev s__joined : Stmt := topS 16
abbrev s__law_cell : Stmt := topS 18
abbrev s__law_row : Stmt := topS 19
abbrev s__law_rect : Stmt := topS 20
abbrev s__law_in_rect : Stmt := topS 21
abbrev s__law_grid : Stmt := topS 22
abbrev s__law_grid_good : Stmt := topS 23
abbrev s__law_both : Stmt := topS 24
abbrev s__law_join : Stmt := topS 25
abbrev s__law_apply : Stmt := topS 26
abbrev s__law_made : Stmt := topS 27
abbrev s_law : Stmt := topS 28
structure Adr where
  frectangle_region : Addr
  drectangle_region : FuncData
  funited : Addr
  dunited : FuncData
  fcommon : Addr
  dcommon : FuncData
  fwithout : Addr
  dwithout : FuncData
  fshifted : Addr
  dshifted : FuncData
  fhas_square : Addr
  dhas_square : FuncData
  f_either : Addr
  d_either : FuncData
  f_first_alone : Addr
  d_first_alone : FuncData
  f_combined : Addr
  d_combined : FuncData
  f_combined_spans : Addr
  d_combined_spans : FuncData
  f_common_spans : Addr
  d_common_spans : FuncData
  f_spans_of : Addr
  d_spans_of : FuncData
  f_pieces : Addr
  d_pieces : FuncData
  f_first_ending_behind : Addr
  d_first_ending_behind : FuncData
  f_row_from : Addr
  d_row_from : FuncData
  f_joined : Addr
  d_joined : FuncData
  f_law_cell : Addr
  d_law_cell : FuncData
  f_law_row : Addr
  d_law_row : FuncData
  f_law_rect : Addr
  d_law_rect : FuncData
  f_law_in_rect : Addr
  d_law_in_rect : FuncData
  f_law_grid : Addr
  d_law_grid : FuncData
  f_law_grid_good : Addr
  d_law_grid_good : FuncData
  f_law_both : Addr
  d_law_both : FuncData
  f_law_join : Addr
  d_law_join : FuncData
  f_law_apply : Addr
  d_law_apply : FuncData
  f_law_made : Addr
  d_law_made : FuncData
  flaw : Addr
  dlaw : FuncData
structure Txt (K : PySem.W.Frag) (mg : Str → Option Value) (A : Adr) : Prop where
  Frectangle_region : Fun K "rectangle_region" "rectangle_region" s_rectangle_region A.frectangle_region A.drectangle_region
  brectangle_region : Binds K A.drectangle_region ["x", "y", "width", "height"] []
  grectangle_region : mg "rectangle_region" = some (.ref A.frectangle_region)
  krectangle_region : PySem.W.keepIn K (.ref A.frectangle_region) = true
  Funited : Fun K "united" "united" s_united A.funited A.dunited
  bunited : Binds K A.dunited ["a", "b"] []
  gunited : mg "united" = some (.ref A.funited)
  kunited : PySem.W.keepIn K (.ref A.funited) = true
  Fcommon : Fun K "common" "common" s_common A.fcommon A.dcommon
  bcommon : Binds K A.dcommon ["a", "b"] []
  gcommon : mg "common" = some (.ref A.fcommon)
  kcommon : PySem.W.keepIn K (.ref A.fcommon) = true
  Fwithout : Fun K "without" "without" s_without A.fwithout A.dwithout
  bwithout : Binds K A.dwithout ["a", "b"] []
  gwithout : mg "without" = some (.ref A.fwithout)
  kwithout : PySem.W.keepIn K (.ref A.fwithout) = true
  Fshifted : Fun K "shifted" "shifted" s_shifted A.fshifted A.dshifted
  bshifted : Binds K A.dshifted ["region", "dx", "dy"] []
  gshifted : mg "shifted" = some (.ref A.fshifted)
  kshifted : PySem.W.keepIn K (.ref A.fshifted) = true
  Fhas_square : Fun K "has_square" "has_square" s_has_square A.fhas_square A.dhas_square
  bhas_square : Binds K A.dhas_square ["region", "x", "y"] []
  ghas_square : mg "has_square" = some (.ref A.fhas_square)
  khas_square : PySem.W.keepIn K (.ref A.fhas_square) = true
  F_either : Fun K "_either" "_either" s__either A.f_either A.d_either
  b_either : Binds K A.d_either ["first", "second"] []
  g_either : mg "_either" = some (.ref A.f_either)
  k_either : PySem.W.keepIn K (.ref A.f_either) = true
  F_first_alone : Fun K "_first_alone" "_first_alone" s__first_alone A.f_first_alone A.d_first_alone
  b_first_alone : Binds K A.d_first_alone ["first", "second"] []
  g_first_alone : mg "_first_alone" = some (.ref A.f_first_alone)
  k_first_alone : PySem.W.keepIn K (.ref A.f_first_alone) = true
  F_combined : Fun K "_combined" "_combined" s__combined A.f_combined A.d_combined
  b_combined : Binds K A.d_combined ["a", "b", "keeps"] []
  g_combined : mg "_combined" = some (.ref A.f_combined)
  k_combined : PySem.W.keepIn K (.ref A.f_combined) = true
  F_combined_spans : Fun K "_combined_spans" "_combined_spans" s__combined_spans A.f_combined_spans A.d_combined_spans
  b_combined_spans : Binds K A.d_combined_spans ["a", "b", "keeps"] []
  g_combined_spans : mg "_combined_spans" = some (.ref A.f_combined_spans)
  k_combined_spans : PySem.W.keepIn K (.ref A.f_combined_spans) = true
  F_common_spans : Fun K "_common_spans" "_common_spans" s__common_spans A.f_common_spans A.d_common_spans
  b_common_spans : Binds K A.d_common_spans ["a", "b"] []
  g_common_spans : mg "_common_spans" = some (.ref A.f_common_spans)
  k_common_spans : PySem.W.keepIn K (.ref A.f_common_spans) = true
  F_spans_of : Fun K "_spans_of" "_spans_of" s__spans_of A.f_spans_of A.d_spans_of
  b_spans_of : Binds K A.d_spans_of ["band"] []
  g_spans_of : mg "_spans_of" = some (.ref A.f_spans_of)
  k_spans_of : PySem.W.keepIn K (.ref A.f_spans_of) = true
  F_pieces : Fun K "_pieces" "_pieces" s__pieces A.f_pieces A.d_pieces
  b_pieces : Binds K A.d_pieces ["a", "b"] []
  g_pieces : mg "_pieces" = some (.ref A.f_pieces)
  k_pieces : PySem.W.keepIn K (.ref A.f_pieces) = true
  F_first_ending_behind : Fun K "_first_ending_behind" "_first_ending_behind" s__first_ending_behind A.f_first_ending_behind A.d_first_ending_behind
  b_first_ending_behind : Binds K A.d_first_ending_behind ["rows", "at", "place"] []
  g_first_ending_behind : mg "_first_ending_behind" = some (.ref A.f_first_ending_behind)
  k_first_ending_behind : PySem.W.keepIn K (.ref A.f_first_ending_behind) = true
  F_row_from : Fun K "_row_from" "_row_from" s__row_from A.f_row_from A.d_row_from
  b_row_from : Binds K A.d_row_from ["rows", "at", "place"] []
  g_row_from : mg "_row_from" = some (.ref A.f_row_from)
  k_row_from : PySem.W.keepIn K (.ref A.f_row_from) = true
  F_joined : Fun K "_joined" "_joined" s__joined A.f_joined A.d_joined
  b_joined : Binds K A.d_joined ["bands"] []
  g_joined : mg "_joined" = some (.ref A.f_joined)
  k_joined : PySem.W.keepIn K (.ref A.f_joined) = true
  F_law_cell : Fun K "_law_cell" "_law_cell" s__law_cell A.f_law_cell A.d_law_cell
  b_law_cell : Binds K A.d_law_cell ["script", "k"] []
  g_law_cell : mg "_law_cell" = some (.ref A.f_law_cell)
  k_law_cell : PySem.W.keepIn K (.ref A.f_law_cell) = true
  F_law_row : Fun K "_law_row" "_law_row" s__law_row A.f_law_row A.d_law_row
  b_law_row : Binds K A.d_law_row ["script", "k"] []
  g_law_row : mg "_law_row" = some (.ref A.f_law_row)
  k_law_row : PySem.W.keepIn K (.ref A.f_law_row) = true
  F_law_rect : Fun K "_law_rect" "_law_rect" s__law_rect A.f_law_rect A.d_law_rect
  b_law_rect : Binds K A.d_law_rect ["row"] []
  g_law_rect : mg "_law_rect" = some (.ref A.f_law_rect)
  k_law_rect : PySem.W.keepIn K (.ref A.f_law_rect) = true
  F_law_in_rect : Fun K "_law_in_rect" "_law_in_rect" s__law_in_rect A.f_law_in_rect A.d_law_in_rect
  b_law_in_rect : Binds K A.d_law_in_rect ["rect", "x", "y"] []
  g_law_in_rect : mg "_law_in_rect" = some (.ref A.f_law_in_rect)
  k_law_in_rect : PySem.W.keepIn K (.ref A.f_law_in_rect) = true
  F_law_grid : Fun K "_law_grid" "_law_grid" s__law_grid A.f_law_grid A.d_law_grid
  b_law_grid : Binds K A.d_law_grid ["rect"] []
  g_law_grid : mg "_law_grid" = some (.ref A.f_law_grid)
  k_law_grid : PySem.W.keepIn K (.ref A.f_law_grid) = true
  F_law_grid_good : Fun K "_law_grid_good" "_law_grid_good" s__law_grid_good A.f_law_grid_good A.d_law_grid_good
  b_law_grid_good : Binds K A.d_law_grid_good ["region", "grid"] []
  g_law_grid_good : mg "_law_grid_good" = some (.ref A.f_law_grid_good)
  k_law_grid_good : PySem.W.keepIn K (.ref A.f_law_grid_good) = true
  F_law_both : Fun K "_law_both" "_law_both" s__law_both A.f_law_both A.d_law_both
  b_law_both : Binds K A.d_law_both ["deed", "one", "two"] []
  g_law_both : mg "_law_both" = some (.ref A.f_law_both)
  k_law_both : PySem.W.keepIn K (.ref A.f_law_both) = true
  F_law_join : Fun K "_law_join" "_law_join" s__law_join A.f_law_join A.d_law_join
  b_law_join : Binds K A.d_law_join ["deed", "a", "b"] []
  g_law_join : mg "_law_join" = some (.ref A.f_law_join)
  k_law_join : PySem.W.keepIn K (.ref A.f_law_join) = true
  F_law_apply : Fun K "_law_apply" "_law_apply" s__law_apply A.f_law_apply A.d_law_apply
  b_law_apply : Binds K A.d_law_apply ["deed", "a", "b"] []
  g_law_apply : mg "_law_apply" = some (.ref A.f_law_apply)
  k_law_apply : PySem.W.keepIn K (.ref A.f_law_apply) = true
  F_law_made : Fun K "_law_made" "_law_made" s__law_made A.f_law_made A.d_law_made
  b_law_made : Binds K A.d_law_made ["script", "first", "many"] []
  g_law_made : mg "_law_made" = some (.ref A.f_law_made)
  k_law_made : PySem.W.keepIn K (.ref A.f_law_made) = true
  Flaw : Fun K "law" "law" s_law A.flaw A.dlaw
  blaw : Binds K A.dlaw ["script"] []
  glaw : mg "law" = some (.ref A.flaw)
  klaw : PySem.W.keepIn K (.ref A.flaw) = true
  any : mg "any" = none
  int : mg "int" = none
  len : mg "len" = none
  max : mg "max" = none
  min : mg "min" = none
  range : mg "range" = none
  set : mg "set" = none
  sorted : mg "sorted" = none
  tuple : mg "tuple" = none
  zip : mg "zip" = none
section
variable {P : Program} {w : World} {K : PySem.W.Frag} {mg : Str → Option Value} {base : Heap} {A : Adr}
/-! ### common: tests, errors, small words -/
theorem exm_self {K : PySem.W.Frag} {S : Addr} (h1 : PySem.W.subIn K (.ref S) (.type "BaseException") = some true) (h2 : PySem.W.isClsIn K S = true) (h3 : PySem.W.typeIn K (.ref S) = some (.type "type")) (h4 : PySem.W.subIn K (.ref S) (.ref S) = some true) :
    PySem.W.exmOne K (.ref S) (.ref S) = some true := by
  have g1 : (PySem.W.subIn K (.ref S) (.type "BaseException") == some true) = true := by rw [h1]; rfl
  have g0 : (PySem.W.clsIn K S).isSome = true := h2
  have g2 : ((PySem.W.clsIn K S).isSome && PySem.W.typeIn K (.ref S) == some (.type "type")) = true := by rw [g0, h3]; rfl
  show (if (PySem.W.subIn K (.ref S) (.type "BaseException") == some true) = true then (if ((PySem.W.clsIn K S).isSome && PySem.W.typeIn K (.ref S) == some (.type "type")) = true then PySem.W.subIn K (.ref S) (.ref S) else none) else none) = some true
  rw [if_pos g1, if_pos g2]
  exact h4
theorem exm_cross {K : PySem.W.Frag} {S R : Addr} {b : Bool} (h1 : PySem.W.subIn K (.ref S) (.type "BaseException") = some true) (h2 : PySem.W.isClsIn K S = true) (h3 : PySem.W.typeIn K (.ref S) = some (.type "type")) (h4 : PySem.W.subIn K (.ref R) (.ref S) = some b) :
    PySem.W.exmOne K (.ref R) (.ref S) = some b := by
  have g1 : (PySem.W.subIn K (.ref S) (.type "BaseException") == some true) = true := by rw [h1]; rfl
  have g0 : (PySem.W.clsIn K S).isSome = true := h2
  have g2 : ((PySem.W.clsIn K S).isSome && PySem.W.typeIn K (.ref S) == some (.type "type")) = true := by rw [g0, h3]; rfl
  show (if (PySem.W.subIn K (.ref S) (.type "BaseException") == some true) = true then (if ((PySem.W.clsIn K S).isSome && PySem.W.typeIn K (.ref S) == some (.type "type")) = true then PySem.W.subIn K (.ref R) (.ref S) else none) else none) = some b
  rw [if_pos g1, if_pos g2]
  exact h4
/-- the law's own promise -/
def sp_law (K : PySem.W.Frag) : Sp := fun vs H Q _ => ∃ (a : Addr) (ns : List Int), vs = [.ref a] ∧ SqL K H a (ns.map V.int) ∧ ns.length ≤ 63 ∧ ∀ H', Q (.bl true) H'
theorem iteP {p A B : Prop} [Decidable p] (h1 : p → A) (h2 : ¬ p → B) : if decide p = true then A else B := by
  by_cases h : p
  · rw [decide_eq_true h]; exact iteT (h1 h)
  · rw [decide_eq_false h]; exact iteF (h2 h)
theorem iteN {p A B : Prop} [Decidable p] (h1 : ¬ p → A) (h2 : p → B) : if (!decide p) = true then A else B := by
  by_cases h : p
  · rw [decide_eq_true h]; exact iteF (h2 h)
  · rw [decide_eq_false h]; exact iteT (h1 h)
theorem iteEq {i j : Int} {A B : Prop} (h1 : i = j → A) (h2 : i ≠ j → B) : if decide (V.int i = V.int j) = true then A else B :=
  iteP (fun h => h1 (V.int.inj h)) (fun h => h2 fun e => h (congrArg V.int e))
theorem iteNe {i j : Int} {A B : Prop} (h1 : i ≠ j → A) (h2 : i = j → B) : if (!decide (V.int i = V.int j)) = true then A else B :=
  iteN (fun h => h1 fun e => h (congrArg V.int e)) (fun h => h2 (V.int.inj h))
theorem if_t {b : Bool} {A B : Prop} (e : b = true) (h : A) : if b = true then A else B := by rw [if_pos e]; exact h
theorem if_f {b : Bool} {A B : Prop} (e : b = false) (h : B) : if b = true then A else B := by rw [e]; exact iteF h
theorem if_b {b : Bool} {A B : Prop} (h1 : b = true → A) (h2 : b = false → B) : if b = true then A else B := by
  cases b with
  | true => exact iteT (h1 rfl)
  | false => exact iteF (h2 rfl)
theorem same_upd {H : Hp} {p : Addr} {o : HO} (h : H p = none) : Same H (upd H p o) := fun b x e => by
  rw [upd_ne (ne_of_none e h)]
  exact e
theorem len_line {n : Nat} (h : n ≤ 100000) : n ≤ sizeLine := Nat.le_trans h (by decide)
theorem lt_line {n : Nat} (h : n < 100000) : n < sizeLine := Nat.lt_of_lt_of_le h (by decide)
local macro_rules | `(tactic| walk_at "rd") => `(tactic| repeat (first
  | refine ⟨_, rfl, ?_⟩
  | refine ⟨_, _, rfl, rfl, ?_⟩
  | refine ⟨rfl, ?_⟩
  | refine Or.inl ⟨_, rfl, ?_⟩
  | refine ⟨(by show (0 : Int) < _; decide), ?_⟩
  | refine ⟨(⟨by decide, by decide⟩ : CDiv _ _), ?_⟩
  | refine ⟨(Or.inl ⟨by decide, by decide⟩ : CMul _ _), ?_⟩
  | refine ⟨(Or.inr ⟨by decide, by decide⟩ : CMul _ _), ?_⟩))
/-! ### data that are compared -/
def Sh (n : Nat) (d : PyData) : Prop := d.canLay0 = true ∧ d.depth ≤ n
theorem Sh.mono {n m : Nat} {d : PyData} (h : Sh n d) (l : n ≤ m) : Sh m d := ⟨h.1, Nat.le_trans h.2 l⟩
theorem sh_all : ∀ {n : Nat} {ds : List PyData}, (∀ d ∈ ds, Sh n d) → PyData.canLayAll0 ds = true ∧ PyData.depthAll ds ≤ n
  | n, [], _ => ⟨by simp [PyData.canLayAll0], by simp [PyData.depthAll]⟩
  | n, d :: ds, h => by
    have h1 := h d List.mem_cons_self
    have h2 := sh_all fun e he => h e (List.mem_cons_of_mem _ he)
    refine ⟨?_, ?_⟩
    · simp only [PyData.canLayAll0, Bool.and_eq_true]; exact ⟨h1.1, h2.1⟩
    · simp only [PyData.depthAll]; exact Nat.max_le.mpr ⟨h1.2, h2.2⟩
theorem sh_list {n : Nat} {ds : List PyData} (h : ∀ d ∈ ds, Sh n d) : Sh (n + 1) (.list ds) := by
  have q := sh_all h
  exact ⟨by simp only [PyData.canLay0]; exact q.1, by simp only [PyData.depth]; exact Nat.succ_le_succ q.2⟩
theorem sh_tuple {n : Nat} {ds : List PyData} (h : ∀ d ∈ ds, Sh n d) : Sh (n + 1) (.tuple ds) := by
  have q := sh_all h
  exact ⟨by simp only [PyData.canLay0]; exact q.1, by simp only [PyData.depth]; exact Nat.succ_le_succ q.2⟩
theorem sh_int (i : Int) : Sh 0 (.int i) := ⟨by simp [PyData.canLay0], by simp [PyData.depth]⟩
theorem sh_bool (i : Bool) : Sh 0 (.bool i) := ⟨by simp [PyData.canLay0], by simp [PyData.depth]⟩
theorem sh_none : Sh 0 .none := ⟨by simp [PyData.canLay0], by simp [PyData.depth]⟩
theorem sh_str {s : Str} (h : PyData.strOk s = true) : Sh 0 (.str s) := ⟨by simp only [PyData.canLay0]; exact h, by simp [PyData.depth]⟩
theorem Sh.shaped {n : Nat} {d : PyData} (h : Sh n d) (l : n ≤ 64 := by decide) : SeqAt.shaped d = true := by
  show (d.canLay0 && decide (d.depth ≤ 64)) = true
  rw [h.1, decide_eq_true (Nat.le_trans h.2 l)]
  rfl
theorem Sh.self {n : Nat} {d : PyData} (h : Sh n d) : PyData.eqv d d = true := SeqAt.eqv_refl d h.1
def pInts (xs : List Int) : PyData := .list (xs.map PyData.int)
theorem sh_ints (xs : List Int) : Sh 1 (pInts xs) := sh_list fun d hd => by
  obtain ⟨i, _, rfl⟩ := List.mem_map.mp hd
  exact sh_int i
theorem dpall_ints {K : PySem.W.Frag} {H : Hp} : ∀ xs : List Int, DpAll K H (xs.map V.int) (xs.map PyData.int)
  | [] => .nil
  | x :: r => .cons (.int x) (dpall_ints r)
theorem dp_ints {K : PySem.W.Frag} {H : Hp} {p : Addr} {xs : List Int} (h : SqL K H p (xs.map V.int)) : Dp K H (.ref p) (pInts xs) := .lst h (dpall_ints xs)
/-! ### views: what is new, what stands -/
structure Ext (V H V' H' : Hp) : Prop where
  vv : Same V V'
  vh : Same V' H'
  hh : Same H H'
  nw : ∀ a, V' a ≠ none → V a ≠ none ∨ H a = none
theorem Ext.refl {V H : Hp} (h : Same V H) : Ext V H V H := ⟨Same.refl V, h, Same.refl H, fun _ h => Or.inl h⟩
theorem Ext.trans {V H V1 H1 V2 H2 : Hp} (a : Ext V H V1 H1) (b : Ext V1 H1 V2 H2) : Ext V H V2 H2 :=
  ⟨a.vv.trans b.vv, b.vh, a.hh.trans b.hh, fun x h => by
    rcases b.nw x h with q | q
    · exact a.nw x q
    · exact Or.inr (a.hh.free q)⟩
theorem none_of_same {V H : Hp} {p : Addr} (s : Same V H) (h : H p = none) : V p = none := s.free h
theorem Ext.new {V H : Hp} {p : Addr} {o : HO} (s : Same V H) (h : H p = none) : Ext V H (upd V p o) (upd H p o) :=
  ⟨same_upd (s.free h), fun b u e => by
    by_cases hb : b = p
    · subst hb; rw [upd_same] at e ⊢; exact e
    · rw [upd_ne hb] at e ⊢; exact s b u e, same_upd h, fun a e => by
    by_cases ha : a = p
    · subst ha; exact Or.inr h
    · rw [upd_ne ha] at e; exact Or.inl e⟩
/-- a new object that the view does not take in -/
theorem Ext.skip {V H : Hp} {p : Addr} {o : HO} (s : Same V H) (h : H p = none) : Ext V H V (upd H p o) :=
  ⟨Same.refl V, s.trans (same_upd h), same_upd h, fun _ e => Or.inl e⟩
theorem Ext.keepOut {V H V' H' : Hp} (x : Ext V H V' H') {D : Addr} (h : V D = none) (hd : H D ≠ none) : V' D = none := by
  cases e : V' D with
  | none => rfl
  | some o =>
    rcases x.nw D (by rw [e]; exact fun z => by cases z) with q | q
    · exact absurd h q
    · exact absurd q hd
/-- an object outside of the view changes -/
theorem Ext.poke {V H V' H' : Hp} (x : Ext V H V' H') {D : Addr} {o : HO} (hd : H D = none) (h : V' D = none) : Ext V H V' (upd H' D o) :=
  ⟨x.vv, fun b u e => by
    have hb : b ≠ D := fun z => by rw [z, h] at e; cases e
    rw [upd_ne hb]; exact x.vh b u e, fun b u e => by
    have hb : b ≠ D := ne_of_none e hd
    rw [upd_ne hb]; exact x.hh b u e, x.nw⟩
/-- the object at D, done, is taken in -/
theorem Ext.take {V H V' H' : Hp} (x : Ext V H V' H') {D : Addr} {o : HO} (hd : H D = none) (h : V' D = none) (e : H' D = some o) : Ext V H (upd V' D o) H' :=
  ⟨x.vv.trans (same_upd h), fun b u q => by
    by_cases hb : b = D
    · subst hb; rw [upd_same] at q; rw [e]; exact q
    · rw [upd_ne hb] at q; exact x.vh b u q, x.hh, fun a q => by
    by_cases ha : a = D
    · subst ha; exact Or.inr hd
    · rw [upd_ne ha] at q; exact x.nw a q⟩
theorem _root_.L2.Same.sqt {K : PySem.W.Frag} {H H' : Hp} {a : Addr} {xs : List V} (e : Same H H') (h : SqT K H a xs) : SqT K H' a xs := by
  rcases h with (h | ⟨o, h⟩) | h
  · exact .inl (.inl (e _ _ h))
  · exact .inl (.inr ⟨o, e _ _ h⟩)
  · exact .inr h
mutual
theorem dp_same {K : PySem.W.Frag} {H H' : Hp} (s : Same H H') : ∀ (d : PyData) (v : V), Dp K H v d → Dp K H' v d
  | .none, _, h => by cases h; exact .non
  | .bool b, _, h => by cases h; exact .bl b
  | .int i, _, h => by cases h; exact .int i
  | .str x, _, h => by cases h; exact .str x
  | .list ds, _, h => by
    cases h with
    | lst q r => exact .lst (s.seq q) (dpall_same s ds _ r)
  | .tuple ds, _, h => by
    cases h with
    | tup q r => exact .tup (s.sqt q) (dpall_same s ds _ r)
  | .dict _, _, h => by cases h
theorem dpall_same {K : PySem.W.Frag} {H H' : Hp} (s : Same H H') : ∀ (ds : List PyData) (vs : List V), DpAll K H vs ds → DpAll K H' vs ds
  | [], _, h => by cases h; exact .nil
  | d :: ds, _, h => by
    cases h with
    | cons q r => exact .cons (dp_same s d _ q) (dpall_same s ds _ r)
end
theorem _root_.L2.Dp.to {K : PySem.W.Frag} {H H' : Hp} {v : V} {d : PyData} (h : Dp K H v d) (s : Same H H') : Dp K H' v d := dp_same s d v h
theorem _root_.L2.DpAll.to {K : PySem.W.Frag} {H H' : Hp} {v : List V} {d : List PyData} (h : DpAll K H v d) (s : Same H H') : DpAll K H' v d := dpall_same s d v h
theorem dpall_len {K : PySem.W.Frag} {H : Hp} : ∀ {vs : List V} {ds : List PyData}, DpAll K H vs ds → vs.length = ds.length
  | _, [], h => by cases h; rfl
  | _, d :: ds, h => by
    cases h with
    | cons q r => exact congrArg (· + 1) (dpall_len r)
theorem dpall_get {K : PySem.W.Frag} {H : Hp} : ∀ {vs : List V} {ds : List PyData} {i : Nat} {v : V}, DpAll K H vs ds → vs[i]? = some v → ∃ d, ds[i]? = some d ∧ Dp K H v d
  | _, [], i, v, h, e => by cases h; cases e
  | _, d :: ds, i, v, h, e => by
    cases h with
    | cons q r =>
      match i, e with
      | 0, e => cases e; exact ⟨d, rfl, q⟩
      | i + 1, e => exact dpall_get (i := i) r e
theorem dpall_get' {K : PySem.W.Frag} {H : Hp} : ∀ {vs : List V} {ds : List PyData} {i : Nat} {d : PyData}, DpAll K H vs ds → ds[i]? = some d → ∃ v, vs[i]? = some v ∧ Dp K H v d
  | _, [], i, d, h, e => by cases e
  | _, d :: ds, i, d', h, e => by
    cases h with
    | cons q r =>
      match i, e with
      | 0, e => cases e; exact ⟨_, rfl, q⟩
      | i + 1, e => exact dpall_get' (i := i) r e
theorem dpall_app {K : PySem.W.Frag} {H : Hp} : ∀ {vs ws : List V} {ds es : List PyData}, DpAll K H vs ds → DpAll K H ws es → DpAll K H (vs ++ ws) (ds ++ es)
  | _, _, [], _, h, g => by cases h; exact g
  | _, _, d :: ds, _, h, g => by
    cases h with
    | cons q r => exact .cons q (dpall_app r g)
theorem dp_list {K : PySem.W.Frag} {H : Hp} {v : V} {ds : List PyData} (h : Dp K H v (.list ds)) : ∃ a xs, v = .ref a ∧ SqL K H a xs ∧ DpAll K H xs ds := by
  cases h with
  | lst q r => exact ⟨_, _, rfl, q, r⟩
theorem dp_tuple {K : PySem.W.Frag} {H : Hp} {v : V} {ds : List PyData} (h : Dp K H v (.tuple ds)) : ∃ a xs, v = .ref a ∧ SqT K H a xs ∧ DpAll K H xs ds := by
  cases h with
  | tup q r => exact ⟨_, _, rfl, q, r⟩
theorem dp_int {K : PySem.W.Frag} {H : Hp} {v : V} {i : Int} (h : Dp K H v (.int i)) : v = .int i := by cases h; rfl
theorem dp_str {K : PySem.W.Frag} {H : Hp} {v : V} {i : Str} (h : Dp K H v (.str i)) : v = .str i := by cases h; rfl
theorem dp_bool {K : PySem.W.Frag} {H : Hp} {v : V} {i : Bool} (h : Dp K H v (.bool i)) : v = .bl i := by cases h; rfl
/-! ### comprehensions over any walk -/
def fm {α : Type} (f : Nat → Option α) (n : Nat) : List α := (List.range n).filterMap f
theorem fm_succ {α : Type} (f : Nat → Option α) (n : Nat) : fm f (n + 1) = fm f n ++ (f n).toList := by
  unfold fm
  rw [List.range_succ, List.filterMap_append]
  congr 1
theorem fm_len {α : Type} (f : Nat → Option α) (n : Nat) : (fm f n).length ≤ n := by
  have h := List.length_filterMap_le f (List.range n)
  rw [List.length_range] at h
  exact h
structure LcInv (K : PySem.W.Frag) (V0 H0 : Hp) (D : Addr) (acc : List PyData) (H : Hp) : Prop where
  ex : ∃ V xs, Ext V0 H0 V H ∧ V D = none ∧ H D = some (.lst xs) ∧ DpAll K V xs acc
theorem LcInv.start {K : PySem.W.Frag} {V0 H0 : Hp} {D : Addr} (s : Same V0 H0) (hD : H0 D = none) : LcInv K V0 H0 D [] (upd H0 D (.lst [])) :=
  ⟨V0, [], Ext.skip s hD, s.free hD, upd_same, .nil⟩
theorem LcInv.done {K : PySem.W.Frag} {V0 H0 H : Hp} {D : Addr} {acc : List PyData} (hD : H0 D = none) (i : LcInv K V0 H0 D acc H) : ∃ U xs, Ext V0 H0 U H ∧ U D = some (.lst xs) ∧ DpAll K U xs acc ∧ Dp K U (.ref D) (.list acc) := by
  obtain ⟨V, xs, x, hv, hd, dp⟩ := i.ex
  exact ⟨_, xs, x.take hD hv hd, upd_same, dp.to (same_upd hv), .lst (SqL.of upd_same) (dp.to (same_upd hv))⟩
/-- one more item -/
theorem LcInv.push {K : PySem.W.Frag} {V0 H0 U H U' H' : Hp} {D : Addr} {acc : List PyData} {xs : List V} {y : V} {d : PyData} (hD : H0 D = none) (x : Ext V0 H0 U H) (hv : U D = none) (hd : H D = some (.lst xs)) (dp : DpAll K U xs acc)
    (x2 : Ext U H U' H') (e : Dp K U' y d) (hl : acc.length < 100000) :
    ∃ acc', H' D = some (.lst acc') ∧ acc'.length < sizeLine ∧ LcInv K V0 H0 D (acc ++ [d]) (upd H' D (.lst (acc' ++ [y]))) := by
  have hv' : U' D = none := x2.keepOut hv (by rw [hd]; exact fun z => by cases z)
  refine ⟨xs, x2.hh _ _ hd, lt_line (by rw [dpall_len dp]; exact hl), U', xs ++ [y], (x.trans x2).poke hD hv', hv', upd_same, dpall_app (dp.to x2.vv) (.cons e .nil)⟩
/-- a comprehension's reading over a walk that leaves the heap as it is: at turn i the item x, then f i: the data of what is put in, or none -/
theorem lc_dp0 {J : It} {n : Nat} {G : Hp → Prop} {Y : Nat → Hp → V → Hp → Prop} (wk : Walk J n G Y) {K : PySem.W.Frag} {V0 H0 : Hp} {D : Addr} {g : TG} {tt : TT} {te : TE} {vs : List Nat} {σ : St} {Qd : Hp → Prop} (f : Nat → Option PyData) (σ0 : St) (hσ : wipe σ vs = σ0) (s0 : Same V0 H0) (hD : H0 D = none) (hn : n < 100000)
    (hG : ∀ H, Same H0 H → G H) (hY : ∀ i H x H', Y i H x H' → H' = H)
    (hs : ∀ i x V H, i < n → Ext V0 H0 V H → Y i H x H → ∀ (Qy : VK) (Qn : Hp → Prop), (∀ d y V' H', f i = some d → Ext V H V' H' → Dp K V' y d → Qy y H') → (f i = none → ∀ V' H', Ext V H V' H' → Qn H') →
      g x σ0 H fun σ2 H2 => wipe σ2 vs = σ0 ∧ tt σ2 H2 fun b H3 => if b = true then te σ2 H3 Qy else Qn H3)
    (hd : ∀ (U H : Hp) (xs : List V), Ext V0 H0 U H → U D = none → H D = some (.lst xs) → DpAll K U xs (fm f n) → Qd H) :
    ∃ W : Nat → Nat → Hp → Prop, (∃ m, W 0 m (upd H0 D (.lst []))) ∧ ∀ i m H, W i m H →
      (J.stop i H ∧ Qd H) ∨ (J.go i H ∧ ∃ Nx : Hp → Prop, (∀ H', Nx H' → ∃ m', m' < m ∧ W (i + 1) m' H') ∧ ∀ x H', J.yld i H x H' → g x (wipe σ vs) H' fun σ2 H2 => wipe σ2 vs = wipe σ vs ∧ tt σ2 H2 fun b H3 =>
        if b = true then te σ2 H3 fun y H4 => ∃ acc, H4 D = some (.lst acc) ∧ acc.length < sizeLine ∧ Nx (upd H4 D (.lst (acc ++ [y]))) else Nx H3) := by
  subst hσ
  refine lc_it wk (fun i H => LcInv K V0 H0 D (fm f i) H) (LcInv.start s0 hD) (fun i H _ p => ?_) (fun i x H H' hi p y => ?_) (fun H p => ?_)
  · obtain ⟨V, xs, x, _⟩ := p.ex
    exact hG H x.hh
  · obtain ⟨V, xs, x0, hv, hdd, dp⟩ := p.ex
    obtain rfl := hY i H x H' y
    refine hs i x V H' hi x0 y _ _ (fun d y' V' H4 e x2 dy => ?_) (fun e V' H4 x2 => ?_)
    · have hl : (fm f i).length < 100000 := Nat.lt_of_le_of_lt (fm_len f i) (Nat.lt_trans hi hn)
      obtain ⟨acc', a1, a2, a3⟩ := LcInv.push hD x0 hv hdd dp x2 dy hl
      refine ⟨acc', a1, a2, ?_⟩
      rw [fm_succ, e]
      exact a3
    · have hv' : V' D = none := x2.keepOut hv (by rw [hdd]; exact fun z => by cases z)
      rw [fm_succ, e]
      show LcInv K V0 H0 D (fm f i ++ []) H4
      rw [List.append_nil]
      exact ⟨V', xs, x0.trans x2, hv', x2.hh _ _ hdd, dp.to x2.vv⟩
  · obtain ⟨U, xs, x, hv, hdd, dp⟩ := p.ex
    exact hd U H xs x hv hdd dp
/-- a comprehension's reading over a walk that leaves the heap as it is: at turn i the item x, then f i: the data of what is put in, or none -/
theorem lc_dp {J : It} {n : Nat} {G : Hp → Prop} {Y : Nat → Hp → V → Hp → Prop} (wk : Walk J n G Y) {K : PySem.W.Frag} {V0 H0 : Hp} {D : Addr} {g : TG} {tt : TT} {te : TE} {vs : List Nat} {σ : St} {Qd : Hp → Prop} (f : Nat → Option PyData) (σ0 : St) (hσ : wipe σ vs = σ0) (s0 : Same V0 H0) (hD : H0 D = none) (hn : n < 100000)
    (hG : ∀ H, Same H0 H → G H) (hY : ∀ i H x H', Y i H x H' → H' = H)
    (hs : ∀ i x V H, i < n → Ext V0 H0 V H → Y i H x H → ∀ (Qy : VK) (Qn : Hp → Prop), (∀ d y V' H', f i = some d → Ext V H V' H' → Dp K V' y d → Qy y H') → (f i = none → ∀ V' H', Ext V H V' H' → Qn H') →
      g x σ0 H fun σ2 H2 => wipe σ2 vs = σ0 ∧ tt σ2 H2 fun b H3 => if b = true then te σ2 H3 Qy else Qn H3)
    (hd : ∀ (U H : Hp) (xs : List V), Ext V0 H0 U H → U D = some (.lst xs) → DpAll K U xs (fm f n) → Dp K U (.ref D) (.list (fm f n)) → Qd H) :
    ∃ W : Nat → Nat → Hp → Prop, (∃ m, W 0 m (upd H0 D (.lst []))) ∧ ∀ i m H, W i m H →
      (J.stop i H ∧ Qd H) ∨ (J.go i H ∧ ∃ Nx : Hp → Prop, (∀ H', Nx H' → ∃ m', m' < m ∧ W (i + 1) m' H') ∧ ∀ x H', J.yld i H x H' → g x (wipe σ vs) H' fun σ2 H2 => wipe σ2 vs = wipe σ vs ∧ tt σ2 H2 fun b H3 =>
        if b = true then te σ2 H3 fun y H4 => ∃ acc, H4 D = some (.lst acc) ∧ acc.length < sizeLine ∧ Nx (upd H4 D (.lst (acc ++ [y]))) else Nx H3) := by
  refine lc_dp0 wk f σ0 hσ s0 hD hn hG hY hs fun U H xs x hv hdd dp => ?_
  exact hd _ H xs (x.take hD hv hdd) upd_same (dp.to (same_upd hv)) (.lst (SqL.of upd_same) (dp.to (same_upd hv)))
theorem fm_map {α β : Type} (f : α → β) : ∀ (xs : List α), fm (fun i => (xs[i]?).map f) xs.length = xs.map f := by
  intro xs
  have h : ∀ n, n ≤ xs.length → fm (fun i => (xs[i]?).map f) n = (xs.take n).map f := by
    intro n
    induction n with
    | zero => intro _; rfl
    | succ n ih =>
      intro hn
      rw [fm_succ, ih (by omega), List.getElem?_eq_getElem (by omega), List.take_succ_eq_append_getElem (by omega), List.map_append]
      rfl
  rw [h _ (Nat.le_refl _), List.take_length]

theorem lc2_outer {J : It} {n : Nat} {G : Hp → Prop} {Y : Nat → Hp → V → Hp → Prop} (wk : Walk J n G Y) {K : PySem.W.Frag} {V0 H0 : Hp} {D : Addr} {g : TG} {vs : List Nat} {σ : St} {body : St → Hp → (Hp → Prop) → Prop} {Qd : Hp → Prop} (F : Nat → List PyData) (σ0 : St) (hσ : wipe σ vs = σ0) (s0 : Same V0 H0) (hD : H0 D = none) (hF : F 0 = [])
    (hG : ∀ H, Same H0 H → G H) (hY : ∀ i H x H', Y i H x H' → H' = H)
    (hs : ∀ i x H, i < n → LcInv K V0 H0 D (F i) H → Y i H x H → ∀ Nx : Hp → Prop, (∀ H', LcInv K V0 H0 D (F (i + 1)) H' → Nx H') → g x σ0 H fun σ2 H2 => wipe σ2 vs = σ0 ∧ body σ2 H2 Nx)
    (hd : ∀ (U H : Hp) (xs : List V), Ext V0 H0 U H → U D = some (.lst xs) → DpAll K U xs (F n) → Dp K U (.ref D) (.list (F n)) → Qd H) :
    ∃ W : Nat → Nat → Hp → Prop, (∃ m, W 0 m (upd H0 D (.lst []))) ∧ ∀ i m H, W i m H →
      (J.stop i H ∧ Qd H) ∨ (J.go i H ∧ ∃ Nx : Hp → Prop, (∀ H', Nx H' → ∃ m', m' < m ∧ W (i + 1) m' H') ∧ ∀ x H', J.yld i H x H' → g x (wipe σ vs) H' fun σ2 H2 => wipe σ2 vs = wipe σ vs ∧ body σ2 H2 Nx) := by
  subst hσ
  refine ⟨fun i m H => m = n - i ∧ i ≤ n ∧ LcInv K V0 H0 D (F i) H, ⟨n, by simp, Nat.zero_le _, by rw [hF]; exact LcInv.start s0 hD⟩, ?_⟩
  rintro i m H ⟨rfl, hi, p⟩
  have sH : Same H0 H := by obtain ⟨_, _, x, _⟩ := p.ex; exact x.hh
  by_cases hlt : i < n
  · refine .inr ⟨wk.goes i H hlt (hG H sH), fun H' => LcInv K V0 H0 D (F (i + 1)) H', fun H' p' => ⟨n - (i + 1), by omega, rfl, hlt, p'⟩, fun x H' y => ?_⟩
    have y' := wk.yields i H x H' hlt (hG H sH) y
    obtain rfl := hY i H x H' y'
    exact hs i x H' hlt p y' _ fun _ h => h
  · have e : i = n := by omega
    subst e
    obtain ⟨U, xs, x, e1, e2, e3⟩ := p.done hD
    exact .inl ⟨wk.stops H (hG H sH), hd U H xs x e1 e2 e3⟩
theorem lc2_inner {J : It} {n : Nat} {G : Hp → Prop} {Y : Nat → Hp → V → Hp → Prop} (wk : Walk J n G Y) {K : PySem.W.Frag} {V0 H0 H4 : Hp} {D : Addr} {acc0 : List PyData} {g : TG} {tt : TT} {te : TE} {vs : List Nat} {σ : St} {Nx : Hp → Prop} (f : Nat → Option PyData) (σ0 : St) (hσ : wipe σ vs = σ0) (hD : H0 D = none)
    (inv : LcInv K V0 H0 D acc0 H4) (hn : acc0.length + n < 100000) (hG : ∀ H, Same H0 H → G H) (hY : ∀ i H x H', Y i H x H' → H' = H)
    (hs : ∀ i x V H, i < n → Ext V0 H0 V H → Y i H x H → ∀ (Qy : VK) (Qn : Hp → Prop), (∀ d y V' H', f i = some d → Ext V H V' H' → Dp K V' y d → Qy y H') → (f i = none → ∀ V' H', Ext V H V' H' → Qn H') →
      g x σ0 H fun σ2 H2 => wipe σ2 vs = σ0 ∧ tt σ2 H2 fun b H3 => if b = true then te σ2 H3 Qy else Qn H3)
    (hd : ∀ H, LcInv K V0 H0 D (acc0 ++ fm f n) H → Nx H) :
    ∃ W : Nat → Nat → Hp → Prop, (∃ m, W 0 m H4) ∧ ∀ i m H, W i m H →
      (J.stop i H ∧ Nx H) ∨ (J.go i H ∧ ∃ Nx1 : Hp → Prop, (∀ H', Nx1 H' → ∃ m', m' < m ∧ W (i + 1) m' H') ∧ ∀ x H', J.yld i H x H' → g x (wipe σ vs) H' fun σ2 H2 => wipe σ2 vs = wipe σ vs ∧ tt σ2 H2 fun b H3 =>
        if b = true then te σ2 H3 fun y H4 => ∃ acc, H4 D = some (.lst acc) ∧ acc.length < sizeLine ∧ Nx1 (upd H4 D (.lst (acc ++ [y]))) else Nx1 H3) := by
  subst hσ
  refine ⟨fun i m H => m = n - i ∧ i ≤ n ∧ LcInv K V0 H0 D (acc0 ++ fm f i) H, ⟨n, by simp, Nat.zero_le _, by rw [show fm f 0 = [] from rfl, List.append_nil]; exact inv⟩, ?_⟩
  rintro i m H ⟨rfl, hi, p⟩
  have sH : Same H0 H := by obtain ⟨_, _, x, _⟩ := p.ex; exact x.hh
  by_cases hlt : i < n
  · refine .inr ⟨wk.goes i H hlt (hG H sH), fun H' => LcInv K V0 H0 D (acc0 ++ fm f (i + 1)) H', fun H' p' => ⟨n - (i + 1), by omega, rfl, hlt, p'⟩, fun x H' y => ?_⟩
    have y' := wk.yields i H x H' hlt (hG H sH) y
    obtain rfl := hY i H x H' y'
    obtain ⟨V, xs, x0, hv, hdd, dp⟩ := p.ex
    refine hs i x V H' hlt x0 y' _ _ (fun d y' V' H4 e x2 dy => ?_) (fun e V' H4 x2 => ?_)
    · have hl : (acc0 ++ fm f i).length < 100000 := by have := fm_len f i; rw [List.length_append]; omega
      obtain ⟨acc', a1, a2, a3⟩ := LcInv.push hD x0 hv hdd dp x2 dy hl
      refine ⟨acc', a1, a2, ?_⟩
      rw [fm_succ, e, ← List.append_assoc]
      exact a3
    · have hv' : V' D = none := x2.keepOut hv (by rw [hdd]; exact fun z => by cases z)
      rw [fm_succ, e]
      show LcInv K V0 H0 D (acc0 ++ (fm f i ++ [])) H4
      rw [List.append_nil]
      exact ⟨V', xs, x0.trans x2, hv', x2.hh _ _ hdd, dp.to x2.vv⟩
  · have e : i = n := by omega
    subst e
    exact .inl ⟨wk.stops H (hG H sH), hd H p⟩
theorem fm_some {α : Type} (f : Nat → α) (n : Nat) : fm (fun i => some (f i)) n = (List.range n).map f := by
  induction n with
  | zero => rfl
  | succ n ih => rw [fm_succ, ih, List.range_succ, List.map_append]; rfl
theorem fl_take' {α : Type} {β : Type} (f : α → List β) : ∀ (xs : List α) (i : Nat) (x : α), xs[i]? = some x → (xs.take (i + 1)).flatMap f = (xs.take i).flatMap f ++ f x := by
  intro xs i x h
  obtain ⟨hi, e⟩ := List.getElem?_eq_some_iff.mp h
  rw [List.take_succ_eq_append_getElem hi, List.flatMap_append, e]
  show _ ++ (f x ++ []) = _
  rw [List.append_nil]
theorem fl_le' {α : Type} {β : Type} (f : α → List β) (xs : List α) (i : Nat) : ((xs.take i).flatMap f).length ≤ (xs.flatMap f).length := by
  have : xs.flatMap f = (xs.take i).flatMap f ++ (xs.drop i).flatMap f := by rw [← List.flatMap_append, List.take_append_drop]
  rw [this, List.length_append]; omega
/-! ### lists of ints, texts -/
theorem tyL {K : PySem.W.Frag} {H : Hp} {a : Addr} {xs : List V} (h : SqL K H a xs) : TyX K H (.ref a) (.type "list") := by
  rcases h with (h | ⟨o, h⟩) | ⟨o, its, n, h, c, _⟩
  · exact .base (.lst h)
  · exact .base (.frz h)
  · exact .kList h c
theorem tyT {K : PySem.W.Frag} {H : Hp} {a : Addr} {xs : List V} (h : SqT K H a xs) : TyX K H (.ref a) (.type "tuple") := by
  rcases h with (h | ⟨o, h⟩) | ⟨o, its, n, h, c, _⟩
  · exact .base (.tup h)
  · exact .fTuple h
  · exact .kTuple h c
theorem dp_intsV {K : PySem.W.Frag} {H : Hp} : ∀ {xs : List V} {is : List Int}, DpAll K H xs (is.map PyData.int) → xs = is.map V.int
  | _, [], r => by cases r; rfl
  | _, i :: is, r => by
    cases r with
    | cons r1 r2 => cases r1; rw [dp_intsV r2]; rfl
theorem dp_intsL {K : PySem.W.Frag} {H : Hp} {a : Addr} {is : List Int} (h : Dp K H (.ref a) (.list (is.map PyData.int))) : SqL K H a (is.map V.int) := by
  obtain ⟨a', xs, e, q, r⟩ := dp_list h
  cases e
  rw [← dp_intsV r]; exact q
theorem dp_strsV {K : PySem.W.Frag} {H : Hp} : ∀ {xs : List V} {is : List Str}, DpAll K H xs (is.map PyData.str) → xs = is.map V.str
  | _, [], r => by cases r; rfl
  | _, i :: is, r => by
    cases r with
    | cons r1 r2 => cases r1; rw [dp_strsV r2]; rfl
theorem dp_boolsV {K : PySem.W.Frag} {H : Hp} : ∀ {xs : List V} {is : List Bool}, DpAll K H xs (is.map PyData.bool) → xs = is.map V.bl
  | _, [], r => by cases r; rfl
  | _, i :: is, r => by
    cases r with
    | cons r1 r2 => cases r1; rw [dp_boolsV r2]; rfl
theorem dp_boolsL {K : PySem.W.Frag} {H : Hp} {a : Addr} {is : List Bool} (h : Dp K H (.ref a) (.list (is.map PyData.bool))) : SqL K H a (is.map V.bl) := by
  obtain ⟨a', xs, e, q, r⟩ := dp_list h
  cases e
  rw [← dp_boolsV r]; exact q
theorem size_eq (z : Str) : z.cps.size = z.cps.toList.length := by simp
theorem cps_at (z : Str) (i : Nat) : z.cps[i]? = z.cps.toList[i]? := by simp
theorem fm_list {α β : Type} (f : α → β) (xs : List α) (n : Nat) (h : n = xs.length) (g : Nat → Option β) (hg : ∀ i x, xs[i]? = some x → g i = some (f x)) : fm g n = xs.map f := by
  subst h
  rw [← fm_map f xs]
  unfold fm
  have : ∀ l : List Nat, (∀ i ∈ l, i < xs.length) → l.filterMap g = l.filterMap fun i => (xs[i]?).map f := by
    intro l
    induction l with
    | nil => intro _; rfl
    | cons i l ih =>
      intro hl
      have hi' := hl i List.mem_cons_self
      rw [List.filterMap_cons, List.filterMap_cons, hg i _ (List.getElem?_eq_getElem hi'), List.getElem?_eq_getElem hi', ih fun j hj => hl j (List.mem_cons_of_mem _ hj)]
      rfl
  exact this _ fun i hi => List.mem_range.mp hi
theorem rep_flat {α : Type} (v : α) : ∀ n : Nat, (List.replicate n [v]).flatten = List.replicate n v
  | 0 => rfl
  | n + 1 => by rw [List.replicate_succ, List.replicate_succ, List.flatten_cons, rep_flat v n]; rfl
/-- a list's object that is tracked, at p, new -/
structure NewL (H H' : Hp) (p : Addr) (xs : List V) : Prop where
  new : H p = none
  same : Same H H'
  at_ : H' p = some (.lst xs)
theorem NewL.ext {U H H' : Hp} {p : Addr} {xs : List V} (n : NewL H H' p xs) (s : Same U H) : Ext U H (upd U p (.lst xs)) H' :=
  ⟨same_upd (s.free n.new), fun b u e => by
    by_cases hb : b = p
    · subst hb; rw [upd_same] at e; rw [n.at_]; exact e
    · rw [upd_ne hb] at e; exact n.same _ _ (s b u e), n.same, fun a e => by
    by_cases ha : a = p
    · subst ha; exact Or.inr n.new
    · rw [upd_ne ha] at e; exact Or.inl e⟩
theorem str_app (x y : Str) : (x ++ y).cps.toList = x.cps.toList ++ y.cps.toList := Array.toList_append
theorem str_len_app (x y : Str) : (x ++ y).length = x.length + y.length := by
  show (x ++ y).cps.size = x.cps.size + y.cps.size
  rw [size_eq, str_app, List.length_append, ← size_eq, ← size_eq]
/-! ### _law_cell, _law_row -/
def lawCell (ns : List Int) (k : Nat) : Int :=
  let c := if 0 < ns.length then ns.getD (k % ns.length) 0 else 0
  if c < 0 then 1 - 2 * c else c
theorem lawCell_nn (ns : List Int) (k : Nat) : 0 ≤ lawCell ns k := by
  unfold lawCell
  simp only
  split <;> omega
def lawOne (c : Int) (k : Nat) : Int := (c * 48271 + (k : Int) * 69621 + 12345) % 2147483647
def lawTwo (o : Int) (k : Nat) : Int := (o * o + 16807 * (k : Int) + 7) % 2147483629
def lawRow (ns : List Int) (k : Nat) : Int :=
  if k < ns.length ∧ 1000000000 ≤ lawCell ns k then lawCell ns k
  else (lawTwo (lawOne (lawCell ns k) k) k * lawTwo (lawOne (lawCell ns k) k) k + lawOne (lawCell ns k) k) % 4294967291 + 4294967296 * (lawOne (lawCell ns k) k + 1)
theorem lawOne_b (c : Int) (k : Nat) : 0 ≤ lawOne c k ∧ lawOne c k < 2147483647 := by unfold lawOne; omega
theorem lawTwo_b (c : Int) (k : Nat) : 0 ≤ lawTwo c k ∧ lawTwo c k < 2147483629 := by
  unfold lawTwo
  generalize c * c + 16807 * (k : Int) + 7 = x
  omega
theorem lawRow_nn (ns : List Int) (k : Nat) : 0 ≤ lawRow ns k := by
  unfold lawRow
  have h1 := lawOne_b (lawCell ns k) k
  split
  · exact lawCell_nn ns k
  · generalize lawTwo (lawOne (lawCell ns k) k) k * lawTwo (lawOne (lawCell ns k) k) k + lawOne (lawCell ns k) k = x
    omega
def sp__law_cell (K : PySem.W.Frag) : Sp := fun vs H Q _ => ∃ (a : Addr) (ns : List Int) (k : Nat), vs = [.ref a, .int (k : Int)] ∧ SqL K H a (ns.map V.int) ∧ Q (.int (lawCell ns k)) H
theorem sc__law_cell : FnScope ["script", "k", "cell"] ["script", "k"] (defScope s__law_cell) := ⟨rfl, rfl, rfl, by decide +kernel, rfl, by decide +kernel, by decide +kernel⟩
theorem ok__law_cell (T : Txt K mg A) : FnOk P w K mg base CX0 1 A.f_law_cell A.d_law_cell ["script", "k"] (sp__law_cell K) := by
  refine T.F_law_cell.ok sc__law_cell (fun vs H Q E h => ?_) (fun cdv Ar outer s H vs Q E hr h => ?_)
  · obtain ⟨a, ns, k, rfl, _⟩ := h
    rfl
  · obtain ⟨a, ns, k, rfl, hS, q⟩ := h
    refine ⟨_, (pss_cons (ps_set (i := 2) sc__law_cell.nd rfl (Or.inl rfl) pe_int)
      (pss_cons (ps_if (pt_cmpR op_gt (pe_callB call_len_seq (by rfl) T.len PySem.boot_len (pa_cons (pv 0) pa_nil)) pe_int (nomark _))
      (pss_one (ps_set (i := 2) sc__law_cell.nd rfl (Or.inl rfl) (pe_ix ix_list (pv 0) (pe_op op_mod (pe_callTy call_int1 (by rfl) T.int (by decide +kernel) (pa_cons (pv 1) pa_nil)) (pe_callB call_len_seq (by rfl) T.len PySem.boot_len (pa_cons (pv 0) pa_nil))) (fun _ _ => rfl))))
      pss_nil)
      (pss_cons (ps_if (pt_cmpR op_lt (pv 2) pe_int (nomark _))
      (pss_one (ps_set (i := 2) sc__law_cell.nd rfl (Or.inl rfl) (pe_op op_sub pe_int (pe_op op_mul pe_int (pv 2)))))
      pss_nil)
      (pss_one (ps_ret (pv 2)))))), ?_⟩
    have two : ∀ (c : Int), (if c < 0 then 1 - 2 * c else c) = lawCell ns k → tSeq (tIfS (tTest (tOp (rI0 fun i j => .bl (decide (i < j))) (tVar 2) (tC (.int 0)))) (tAsg (tOp (rI0 fun i j => .int (i - j)) (tC (.int 1)) (tOp (rI CMul fun i j => .int (i * j)) (tC (.int 2)) (tVar 2))) (gName 2)) tNext) (tRet (tVar 2))
        { nx := fun _ H' => Q .non H', rt := Q } [some (.ref a), some (.int (k : Int)), some (.int c)] H := by
      intro c hc
      walk_at "rd"
      refine iteP (fun h => ?_) (fun h => ?_)
      · rw [if_pos h] at hc
        walk_at "rd"
        rw [← hc] at q; exact q
      · rw [if_neg h] at hc
        walk_at "rd"
        rw [← hc] at q; exact q
    refine ⟨.ref a, rfl, a, _, rfl, .inl hS, _, _, rfl, rfl, _, rfl, iteP (fun h => ?_) (fun h => ?_)⟩
    · have h0 : 0 < ns.length := by rw [List.length_map] at h; omega
      refine ⟨_, rfl, _, rfl, Or.inl ⟨_, rfl, ?_⟩⟩
      refine ⟨_, rfl, a, _, rfl, .inl hS, _, _, rfl, rfl, by show (0 : Int) < _; omega, a, _, _, .int (ns.getD (k % ns.length) 0), rfl, rfl, hS, ?_, ?_⟩
      · refine at_of (j := k % ns.length) ?_ ?_
        · rw [List.length_map]; exact (Int.natCast_emod _ _).symm
        · rw [List.getElem?_map, List.getElem?_eq_getElem (Nat.mod_lt _ h0), List.getD_eq_getElem?_getD, List.getElem?_eq_getElem (Nat.mod_lt _ h0)]; rfl
      · refine two _ ?_
        unfold lawCell; rw [if_pos h0]
    · have h0 : ¬ 0 < ns.length := by rw [List.length_map] at h; omega
      refine two _ ?_
      unfold lawCell; rw [if_neg h0]
def sp__law_row (K : PySem.W.Frag) : Sp := fun vs H Q _ => ∃ (a : Addr) (ns : List Int) (k : Nat), vs = [.ref a, .int (k : Int)] ∧ SqL K H a (ns.map V.int) ∧ Q (.int (lawRow ns k)) H
theorem sc__law_row : FnScope ["script", "k", "cell", "one", "two"] ["script", "k"] (defScope s__law_row) := ⟨rfl, rfl, rfl, by decide +kernel, rfl, by decide +kernel, by decide +kernel⟩
theorem ok__law_row (T : Txt K mg A) : FnOk P w K mg base CX0 2 A.f_law_row A.d_law_row ["script", "k"] (sp__law_row K) := by
  refine T.F_law_row.ok sc__law_row (fun vs H Q E h => ?_) (fun cdv Ar outer s H vs Q E hr h => ?_)
  · obtain ⟨a, ns, k, rfl, _⟩ := h
    rfl
  · obtain ⟨a, ns, k, rfl, hS, q⟩ := h
    refine ⟨_, (pss_cons (ps_set (i := 2) sc__law_row.nd rfl (Or.inl rfl) (pe_call (ok__law_cell T) (hr.mono (by decide)) rfl T.g_law_cell T.k_law_cell T.b_law_cell .nil pass0 (pa_cons (pv 0) (pa_cons (pv 1) pa_nil))))
      (pss_cons (ps_if (PW.pt (pw_and (pt_cmpR op_lt (pv 1) (pe_callB call_len_seq (by rfl) T.len PySem.boot_len (pa_cons (pv 0) pa_nil)) (nomark _)) (pw_and1 (pt_cmpR op_ge (pv 2) pe_int (nomark _)))))
      (pss_one (ps_ret (pv 2)))
      pss_nil)
      (pss_cons (ps_set (i := 3) sc__law_row.nd rfl (Or.inl rfl) (pe_op op_mod (pe_callTy call_int1 (by rfl) T.int (by decide +kernel) (pa_cons (pe_op op_add (pe_op op_add (pe_op op_mul (pv 2) pe_int) (pe_op op_mul (pv 1) pe_int)) pe_int) pa_nil)) pe_int))
      (pss_cons (ps_set (i := 4) sc__law_row.nd rfl (Or.inl rfl) (pe_op op_mod (pe_callTy call_int1 (by rfl) T.int (by decide +kernel) (pa_cons (pe_op op_add (pe_op op_add (pe_op op_mul (pv 3) (pv 3)) (pe_op op_mul pe_int (pv 1))) pe_int) pa_nil)) pe_int))
      (pss_one (ps_ret (pe_op op_add (pe_op op_mod (pe_callTy call_int1 (by rfl) T.int (by decide +kernel) (pa_cons (pe_op op_add (pe_op op_mul (pv 4) (pv 4)) (pv 3)) pa_nil)) pe_int) (pe_op op_mul pe_int (pe_op op_add (pv 3) pe_int))))))))), ?_⟩
    have b1 := lawOne_b (lawCell ns k) k
    have b2 := lawTwo_b (lawOne (lawCell ns k) k) k
    have m1 : CMul (lawOne (lawCell ns k) k) (lawOne (lawCell ns k) k) := Or.inl ⟨by omega, by omega⟩
    have m2 : CMul (lawTwo (lawOne (lawCell ns k) k) k) (lawTwo (lawOne (lawCell ns k) k) k) := Or.inl ⟨by omega, by omega⟩
    refine ⟨_, rfl, _, rfl, a, ns, k, rfl, hS, ?_⟩
    refine ⟨_, rfl, _, rfl, a, _, rfl, .inl hS, _, _, rfl, rfl, _, rfl, ?_⟩
    refine iteP (fun h => ?_) (fun h => ?_)
    · refine ⟨_, rfl, _, _, rfl, rfl, _, rfl, iteP (fun h2 => ?_) (fun h2 => ?_)⟩
      · have e : lawRow ns k = lawCell ns k := by unfold lawRow; rw [if_pos ⟨by rw [List.length_map] at h; omega, h2⟩]
        rw [e] at q
        exact ⟨_, rfl, q⟩
      · unfold lawRow at q
        rw [if_neg fun z => h2 z.2] at q
        walk_at "rd"
        refine ⟨m1, ?_⟩
        walk_at "rd"
        refine ⟨m2, ?_⟩
        walk_at "rd"
        exact q
    · unfold lawRow at q
      rw [if_neg fun z => h (by rw [List.length_map]; omega)] at q
      walk_at "rd"
      refine ⟨m1, ?_⟩
      walk_at "rd"
      refine ⟨m2, ?_⟩
      walk_at "rd"
      exact q
/-! ### a word that goes on by itself -/
theorem iteVP {p A B : Prop} [Decidable p] (h1 : p → A) (h2 : ¬ p → B) : if p then A else B := by
  by_cases h : p
  · rw [if_pos h]; exact h1 h
  · rw [if_neg h]; exact h2 h
/-- a new tuple is handed back -/
def RetT (H : Hp) (Q : VK) (xs : List V) : Prop := ∀ p H', Same H H' → H' p = some (.tup xs) → Q (.ref p) H'
theorem RetT.go {H : Hp} {Q : VK} {xs : List V} (h : ∀ p H', Same H H' → H' p = some (.tup xs) → Q (.ref p) H') : RetT H Q xs := h
theorem ne_self {d e : PyData} {A B : Prop} (hs : SeqAt.shaped d = true) (h : d = e) (hB : B) : if (!PyData.eqv d e) = true then A else B := by
  subst h
  have h2 : (d.canLay0 && decide (d.depth ≤ 64)) = true := hs
  have : PyData.eqv d d = true := SeqAt.eqv_refl d (by rw [Bool.and_eq_true] at h2; exact h2.1)
  rw [this]
  exact iteF hB
theorem eq_self {d e : PyData} {A B : Prop} (hs : SeqAt.shaped d = true) (h : d = e) (hA : A) : if PyData.eqv d e = true then A else B := by
  subst h
  have h2 : (d.canLay0 && decide (d.depth ≤ 64)) = true := hs
  have : PyData.eqv d d = true := SeqAt.eqv_refl d (by rw [Bool.and_eq_true] at h2; exact h2.1)
  rw [this]
  exact iteT hA
theorem t_ne {K : PySem.W.Frag} {x y : V} {H : Hp} {Q : VK} {d e : PyData} (h1 : Dp K H x d) (h2 : Dp K H y e) (s1 : SeqAt.shaped d = true) (s2 : SeqAt.shaped e = true) (q : Q (.bl (!PyData.eqv d e)) H) : rNeD K x y H Q := ⟨d, e, h1, h2, s1, s2, q⟩
theorem t_eq {K : PySem.W.Frag} {x y : V} {H : Hp} {Q : VK} {d e : PyData} (h1 : Dp K H x d) (h2 : Dp K H y e) (s1 : SeqAt.shaped d = true) (s2 : SeqAt.shaped e = true) (q : Q (.bl (PyData.eqv d e)) H) : rEqD K x y H Q := ⟨d, e, h1, h2, s1, s2, q⟩
/-! words that go on by themselves -/
local macro_rules | `(tactic| walk_at "sq") => `(tactic| first
  | exact SqT.of upd_same
  | exact SqL.of upd_same
  | assumption
  | exact SqT.of (by assumption)
  | exact SqL.of (by assumption)
  | (apply Same.sqt (same_upd (by assumption)); walk_at "sq")
  | (apply Same.seq (same_upd (by assumption)); walk_at "sq")
  | (apply Same.sqt (by assumption); walk_at "sq")
  | (apply Same.seq (by assumption); walk_at "sq"))
local macro_rules | `(tactic| walk_at "sm") => `(tactic| first
  | exact Same.refl _
  | assumption
  | (apply Same.trans _ (same_upd (by assumption)); walk_at "sm")
  | (apply Same.trans _ (by assumption); walk_at "sm"))
local macro_rules | `(tactic| walk_at "at") => `(tactic| first
  | exact atI_nat (j := 0) rfl
  | exact atI_nat (j := 1) rfl
  | exact atI_nat (j := 2) rfl
  | exact atI_nat (j := 3) rfl
  | exact atI_nat (j := 4) rfl
  | exact atI_nat (j := 5) rfl)
local macro_rules | `(tactic| walk_at "go1") => `(tactic| first
  | refine ⟨_, rfl, ?_⟩
  | refine ⟨_, _, rfl, rfl, ?_⟩
  | refine ⟨rfl, ?_⟩
  | refine Or.inl ⟨_, rfl, ?_⟩
  | refine ⟨(by show (0 : Int) < _; decide), ?_⟩
  | refine ⟨(⟨by decide, by decide⟩ : CDiv _ _), ?_⟩
  | refine ⟨(Or.inl ⟨by decide, by decide⟩ : CMul _ _), ?_⟩
  | refine ⟨(Or.inr ⟨by decide, by decide⟩ : CMul _ _), ?_⟩
  | refine ⟨_, _, rfl, ?_⟩
  | refine ⟨_, _, _, rfl, ?_⟩
  | refine ⟨_, _, _, _, rfl, ?_⟩
  | (refine And.intro (a := (0 : Int) ≤ _) ?_ ?_; focus omega)
  | (refine And.intro (a := _ ≤ sizeLine) ?_ (fun p hp => ?_); (focus (exact len_line (Nat.le_of_ble_eq_true rfl))))
  | refine RetT.go (fun p H' s e => ?_)
  | refine if_t rfl ?_
  | refine if_f rfl ?_
  | refine ⟨_, _, rfl, (by walk_at "sq"), rfl, ?_⟩
  | refine ⟨_, _, rfl, Or.inl (by walk_at "sq"), ?_⟩
  | refine ⟨_, _, rfl, Or.inr (by walk_at "sq"), ?_⟩
  | refine ⟨_, _, _, _, rfl, rfl, (by walk_at "sq"), (by walk_at "at"), ?_⟩
  | refine ⟨_, _, rfl, (by walk_at "sq"), (by show ¬(HT.sIx 4 0 (some 2) = 0 ∧ HT.sIx 4 4 none = 4); decide), fun p hp => ?_⟩
  | refine ⟨_, _, _, _, rfl, rfl, (by walk_at "sq"), (by walk_at "sq"), (by intro h; cases h), len_line (Nat.le_of_ble_eq_true rfl), (fun h => by cases h), fun _ p hp => ?_⟩)
local macro_rules | `(tactic| walk_at "go") => `(tactic| repeat walk_at "go1")
local macro_rules | `(tactic| walk_at "dps") => `(tactic| first
  | exact DpAll.nil
  | (apply DpAll.cons; (focus (walk_at "dp")); (focus (walk_at "dps"))))
local macro_rules | `(tactic| walk_at "dp") => `(tactic| first
  | exact Dp.int _
  | exact Dp.bl _
  | exact Dp.str _
  | exact Dp.non
  | (apply Dp.tup; (focus (walk_at "sq")); (focus (walk_at "dps")))
  | (apply Dp.lst; (focus (walk_at "sq")); (focus (walk_at "dps"))))
local macro_rules | `(tactic| walk_at "sh") => `(tactic| (show (PyData.canLay0 _ && decide (PyData.depth _ ≤ 64)) = true; simp [PyData.canLay0, PyData.canLayAll0, PyData.depth, PyData.depthAll]))
/-- a deep comparison: what is left is the if -/
local macro_rules | `(tactic| walk_at "ne") => `(tactic| (apply t_ne; (focus (walk_at "dp")); (focus (walk_at "dp")); (focus (walk_at "sh")); (focus (walk_at "sh")); refine ⟨_, rfl, ?_⟩))
local macro_rules | `(tactic| walk_at "neS") => `(tactic| (walk_at "ne"; refine ne_self ?_ ?_ ?_; (focus (walk_at "sh"))))
/-! ### regions -/
abbrev Span := Int × Int
abbrev Band := Int × Int × List Span
def spanD (s : Span) : PyData := .tuple [.int s.1, .int s.2]
def spansD (ss : List Span) : PyData := .tuple (ss.map spanD)
def bandD (b : Band) : PyData := .tuple [.int b.1, .int b.2.1, spansD b.2.2]
def regD (R : List Band) : PyData := .list (R.map bandD)
def hasSq : List Band → Int → Int → Bool
  | [], _, _ => false
  | b :: r, x, y => if b.1 ≤ y ∧ y < b.2.1 then b.2.2.any (fun s => decide (s.1 ≤ x ∧ x < s.2)) else hasSq r x y
def rectReg (x y w h : Int) : List Band := if w ≤ 0 ∨ h ≤ 0 then [] else [(y, y + h, [(x, x + w)])]
theorem dp_span {K : PySem.W.Frag} {H : Hp} {v : V} {s : Span} (h : Dp K H v (spanD s)) : ∃ a, v = .ref a ∧ SqT K H a [.int s.1, .int s.2] := by
  obtain ⟨a, xs, e, q, r⟩ := dp_tuple h
  cases r with | cons r1 r => cases r with | cons r2 r => cases r; cases r1; cases r2; exact ⟨a, e, q⟩
theorem dp_band {K : PySem.W.Frag} {H : Hp} {v : V} {b : Band} (h : Dp K H v (bandD b)) : ∃ a p ss, v = .ref a ∧ SqT K H a [.int b.1, .int b.2.1, .ref p] ∧ SqT K H p ss ∧ DpAll K H ss (b.2.2.map spanD) := by
  obtain ⟨a, xs, e, q, r⟩ := dp_tuple h
  cases r with | cons r1 r => cases r with | cons r2 r => cases r with | cons r3 r =>
    cases r; cases r1; cases r2
    obtain ⟨p, ss, rfl, q2, r4⟩ := dp_tuple r3
    exact ⟨a, p, ss, e, q, q2, r4⟩
theorem mk_span {K : PySem.W.Frag} {H : Hp} {a : Addr} {s : Span} (h : SqT K H a [.int s.1, .int s.2]) : Dp K H (.ref a) (spanD s) := .tup h (.cons (.int _) (.cons (.int _) .nil))
theorem mk_band {K : PySem.W.Frag} {H : Hp} {a p : Addr} {ss : List V} {b : Band} (h : SqT K H a [.int b.1, .int b.2.1, .ref p]) (q : SqT K H p ss) (r : DpAll K H ss (b.2.2.map spanD)) : Dp K H (.ref a) (bandD b) :=
  .tup h (.cons (.int _) (.cons (.int _) (.cons (.tup q r) .nil)))
theorem sh_span (s : Span) : Sh 1 (spanD s) := sh_tuple fun d hd => by
  simp only [List.mem_cons, List.not_mem_nil, or_false] at hd
  rcases hd with rfl | rfl <;> exact sh_int _
theorem sh_spans (ss : List Span) : Sh 2 (spansD ss) := sh_tuple fun d hd => by
  obtain ⟨s, _, rfl⟩ := List.mem_map.mp hd
  exact sh_span s
theorem sh_band (b : Band) : Sh 3 (bandD b) := sh_tuple fun d hd => by
  simp only [List.mem_cons, List.not_mem_nil, or_false] at hd
  rcases hd with rfl | rfl | rfl
  · exact (sh_int _).mono (by decide)
  · exact (sh_int _).mono (by decide)
  · exact (sh_spans _).mono (by decide)
theorem sh_reg (R : List Band) : Sh 4 (regD R) := sh_list fun d hd => by
  obtain ⟨s, _, rfl⟩ := List.mem_map.mp hd
  exact sh_band s
def sp_rectangle_region (K : PySem.W.Frag) : Sp := fun vs H Q _ => ∃ (x y wd ht : Int) (U : Hp), vs = [.int x, .int y, .int wd, .int ht] ∧ Same U H ∧
  ∀ v U' H', Ext U H U' H' → Dp K U' v (regD (rectReg x y wd ht)) → Q v H'
theorem sc_rectangle_region : FnScope ["x", "y", "width", "height"] ["x", "y", "width", "height"] (defScope s_rectangle_region) := ⟨rfl, rfl, rfl, by decide +kernel, rfl, by decide +kernel, by decide +kernel⟩
theorem ok_rectangle_region (T : Txt K mg A) : FnOk P w K mg base CX0 1 A.frectangle_region A.drectangle_region ["x", "y", "width", "height"] (sp_rectangle_region K) := by
  refine T.Frectangle_region.ok sc_rectangle_region (fun vs H Q E h => ?_) (fun cdv Ar outer s H vs Q E hr h => ?_)
  · obtain ⟨x, y, wd, ht, U, rfl, _⟩ := h
    rfl
  · obtain ⟨x, y, wd, ht, U, rfl, hU, q⟩ := h
    refine ⟨_, (pss_cons (ps_if (PW.pt (pw_or (pt_cmpR op_le (pv 2) pe_int (nomark _)) (pw_or1 (pt_cmpR op_le (pv 3) pe_int (nomark _)))))
      (pss_one (ps_ret (pe_lst pa_nil)))
      pss_nil)
      (pss_one (ps_ret (pe_lst (pa_cons (pe_tup (pa_cons (pv 1) (pa_cons (pe_op op_add (pv 1) (pv 3)) (pa_cons (pe_tup (pa_cons (pe_tup (pa_cons (pv 0) (pa_cons (pe_op op_add (pv 0) (pv 2)) pa_nil))) pa_nil)) pa_nil)))) pa_nil))))), ?_⟩
    have empty : (wd ≤ 0 ∨ ht ≤ 0) → ∀ p, H p = none → Q (.ref p) (upd H p (.lst [])) := fun c p hp => by
      refine q _ _ _ (Ext.new hU hp) ?_
      unfold rectReg; rw [if_pos c]
      exact .lst (SqL.of upd_same) .nil
    refine ⟨_, rfl, _, _, rfl, rfl, _, rfl, iteP (fun h => ?_) (fun h => ?_)⟩
    · exact if_t rfl ⟨by decide, empty (Or.inl h)⟩
    · refine ⟨_, rfl, _, _, rfl, rfl, _, rfl, iteP (fun h2 => ?_) (fun h2 => ?_)⟩
      · exact ⟨by decide, empty (Or.inr h2)⟩
      · refine ⟨_, rfl, _, rfl, _, rfl, _, _, rfl, rfl, _, rfl, _, rfl, _, rfl, _, _, rfl, rfl, len_line (by show 2 ≤ 100000; decide), fun p1 n1 => ?_⟩
        refine ⟨len_line (by show 1 ≤ 100000; decide), fun p2 n2 => ⟨len_line (by show 3 ≤ 100000; decide), fun p3 n3 => ⟨len_line (by show 1 ≤ 100000; decide), fun p4 n4 => ?_⟩⟩⟩
        have x1 := Ext.new (o := .tup [.int x, .int (x + wd)]) hU n1
        have x2 := x1.trans (Ext.new (o := .tup [.ref p1]) x1.vh n2)
        have x3 := x2.trans (Ext.new (o := .tup [.int y, .int (y + ht), .ref p2]) x2.vh n3)
        have x4 := x3.trans (Ext.new (o := .lst [.ref p3]) x3.vh n4)
        refine q _ _ _ x4 ?_
        unfold rectReg; rw [if_neg (by omega)]
        have s2 := same_upd (o := .tup [.ref p1]) (none_of_same x1.vh n2)
        have s3 := same_upd (o := .tup [.int y, .int (y + ht), .ref p2]) (none_of_same x2.vh n3)
        have s4 := same_upd (o := .lst [.ref p3]) (none_of_same x3.vh n4)
        refine .lst (SqL.of upd_same) (.cons (.to (mk_band (b := (y, y + ht, [(x, x + wd)])) (ss := [.ref p1]) (SqT.of upd_same) (s3.sqt (SqT.of upd_same)) (.cons ?_ .nil)) s4) .nil)
        exact (mk_span (s := (x, x + wd)) (SqT.of upd_same)).to (s2.trans s3)
theorem hasSq_drop {R : List Band} {i : Nat} {b : Band} {x y : Int} (h : R[i]? = some b) : hasSq (R.drop i) x y = if b.1 ≤ y ∧ y < b.2.1 then b.2.2.any (fun s => decide (s.1 ≤ x ∧ x < s.2)) else hasSq (R.drop (i + 1)) x y := by
  obtain ⟨hi, e⟩ := List.getElem?_eq_some_iff.mp h
  rw [List.drop_eq_getElem_cons hi, e]
  rfl
theorem bls {f : Nat → Option Bool} {n : Nat} {g : Nat → Option PyData} (h : ∀ i, i < n → g i = (f i).map PyData.bool) : fm g n = (fm f n).map PyData.bool := by
  induction n with
  | zero => rfl
  | succ n ih =>
    rw [fm_succ, fm_succ, ih fun i hi => h i (Nat.lt_succ_of_lt hi), h n (Nat.lt_succ_self n), List.map_append]
    cases f n <;> rfl
theorem dp_bools {K : PySem.W.Frag} {H : Hp} {a : Addr} {bs : List Bool} (h : Dp K H (.ref a) (.list (bs.map PyData.bool))) : SqL K H a (bs.map V.bl) := by
  obtain ⟨a', xs, e, q, r⟩ := dp_list h
  cases e
  have : xs = bs.map V.bl := by
    clear h q
    induction bs generalizing xs with
    | nil => cases r; rfl
    | cons b bs ih =>
      cases r with
      | cons r1 r2 => cases r1; rw [ih _ r2]; rfl
  rw [← this]; exact q
/-! ### a square of a region -/
def sp_has_square (K : PySem.W.Frag) : Sp := fun vs H Q _ => ∃ (r : V) (R : List Band) (x y : Int), vs = [r, .int x, .int y] ∧ Dp K H r (regD R) ∧ (∀ b ∈ R, b.2.2.length < 100000) ∧
  ∀ H', Same H H' → Q (.bl (hasSq R x y)) H'
theorem sc_has_square : FnScope ["region", "x", "y", "top", "bottom", "spans", "begin", "end"] ["region", "x", "y"] (defScope s_has_square) := ⟨rfl, rfl, rfl, by decide +kernel, rfl, by decide +kernel, by decide +kernel⟩
theorem ok_has_square (T : Txt K mg A) : FnOk P w K mg base CX0 1 A.fhas_square A.dhas_square ["region", "x", "y"] (sp_has_square K) := by
  refine T.Fhas_square.ok sc_has_square (fun vs H Q E h => ?_) (fun cdv Ar outer s H vs Q E hr h => ?_)
  · obtain ⟨r, R, x, y, rfl, _⟩ := h
    rfl
  · obtain ⟨r, R, x, y, rfl, hR, hlen, q⟩ := h
    obtain ⟨a, xs, rfl, hS, hD⟩ := dp_list hR
    refine ⟨_, (pss_cons (ps_for PassesOwn.never rfl (pi_list (pv 0)) (pg_tup rfl (pgs_cons (pg_name (i := 3) sc_has_square.nd rfl (Or.inl rfl)) (pgs_cons (pg_name (i := 4) sc_has_square.nd rfl (Or.inl rfl)) (pgs_cons (pg_name (i := 5) sc_has_square.nd rfl (Or.inl rfl)) pgs_nil))))
      (pss_one (ps_if (pt_chain op_le op_lt (pv 3) (pv 2) (pv 4))
      (pss_one (ps_ret (pe_callB (cr_any rfl) (by rfl) T.any (by decide +kernel) (pa_cons (pe_lc (own := [("begin", 6), ("end", 7)]) (g := gTup K 2 (gCons (gName 6) (gCons (gName 7) gNil))) (tt := tYes) rfl sc_has_square.nd (pi_tup (pv 5)) (blkOk_by (own := [("begin", 6), ("end", 7)]) (N := ["region", "x", "y", "top", "bottom", "spans", "begin", "end"]) (sc := defScope s_has_square) (by decide +kernel)) (fun _ _ _ _ _ => by exact (pg_tup rfl (pgs_cons (pg_name (i := 6) sc_has_square.nd rfl (Or.inl rfl)) (pgs_cons (pg_name (i := 7) sc_has_square.nd rfl (Or.inl rfl)) pgs_nil)))) (fun _ _ _ _ _ => pts_nil) (fun _ _ _ _ _ => (pe_chain op_le op_lt (pv 6) (pv 1) (pv 7)))) pa_nil))))
      pss_nil)))
      (pss_one (ps_ret pe_bl))), ?_⟩
    refine ⟨_, rfl, a, rfl, ⟨_, hS⟩, for_list (K := K) (a := a) (xs := xs) (fun i σ H' => ∃ v3 v4 v5 v6 v7 : Option V, σ = [some (.ref a), some (.int x), some (.int y), v3, v4, v5, v6, v7] ∧ Same H H' ∧ hasSq R x y = hasSq (R.drop i) x y)
      ⟨_, _, _, _, _, rfl, Same.refl H, rfl⟩ (fun i σ H' _ ⟨_, _, _, _, _, _, s, _⟩ => s.seq hS) ?_ ?_⟩
    · rintro i v σ H1 hi ⟨v3, v4, v5, v6, v7, rfl, s1, e1⟩
      obtain ⟨d, hd, dv⟩ := dpall_get hD hi
      rw [List.getElem?_map] at hd
      obtain ⟨b, hb, rfl⟩ := Option.map_eq_some_iff.mp hd
      obtain ⟨ab, p, ss, rfl, qa, qp, qs⟩ := dp_band dv
      rw [hasSq_drop hb] at e1
      refine ⟨ab, _, rfl, s1.sqt qa, rfl, _, _, rfl, _, _, rfl, _, _, rfl, rfl, ?_⟩
      refine ⟨_, rfl, _, rfl, _, _, rfl, rfl, _, rfl, iteP (fun h => ?_) (fun h => ?_)⟩
      · refine ⟨_, rfl, _, _, rfl, rfl, _, rfl, iteP (fun h2 => ?_) (fun h2 => ?_)⟩
        · rw [if_pos ⟨h, h2⟩] at e1
          refine ⟨_, rfl, p, rfl, ⟨_, s1.sqt qp⟩, fun D hDn => ?_⟩
          have hss : ss.length < 100000 := by
            rw [dpall_len qs, List.length_map]; exact hlen b (List.mem_of_getElem? hb)
          refine lc_dp (walk_tup (K := K) (a := p) (xs := ss)) (K := K) (V0 := H1) (H0 := H1) (fun i => (b.2.2[i]?).map fun s => PyData.bool (decide (s.1 ≤ x ∧ x < s.2))) [some (.ref a), some (.int x), some (.int y), some (.int b.1), some (.int b.2.1), some (.ref p), none, none] rfl (Same.refl _) hDn hss (fun H' s => (s1.trans s).sqt qp) (fun i x H H' y => y.1) ?_ ?_
          · rintro j v U H2 hj xx ⟨_, hv⟩ Qy Qn hy _
            obtain ⟨d, hd, dv⟩ := dpall_get qs hv
            rw [List.getElem?_map] at hd
            obtain ⟨sp, hsp, rfl⟩ := Option.map_eq_some_iff.mp hd
            obtain ⟨as, rfl, qsp⟩ := dp_span dv
            refine ⟨as, _, rfl, (s1.trans xx.hh).sqt qsp, rfl, _, _, rfl, _, _, rfl, rfl, rfl, _, rfl, _, rfl, _, _, rfl, rfl, _, rfl, iteP (fun h3 => ?_) (fun h3 => ?_)⟩
            · refine ⟨_, rfl, _, _, rfl, rfl, hy _ _ _ _ (by rw [hsp]; rfl) (Ext.refl xx.vh) ?_⟩
              have e : decide (sp.1 ≤ x ∧ x < sp.2) = decide (x < sp.2) := by
                by_cases c : x < sp.2
                · rw [decide_eq_true c, decide_eq_true ⟨h3, c⟩]
                · rw [decide_eq_false c, decide_eq_false fun z => c z.2]
              dsimp only; rw [e]; exact .bl _
            · refine hy _ _ _ _ (by rw [hsp]; rfl) (Ext.refl xx.vh) ?_
              dsimp only; rw [decide_eq_false fun z => h3 z.1]; exact .bl _
          · rintro U H2 _ xx _ _ dl
            have el : ss.length = b.2.2.length := by rw [dpall_len qs, List.length_map]
            rw [el, fm_map] at dl
            have dl2 : Dp K U (.ref D) (.list ((b.2.2.map fun s => decide (s.1 ≤ x ∧ x < s.2)).map PyData.bool)) := by
              rw [List.map_map]; exact dl
            refine ⟨D, _, rfl, xx.vh.seq (dp_bools dl2), ?_⟩
            have e2 : (b.2.2.map fun s => decide (s.1 ≤ x ∧ x < s.2)).any id = hasSq R x y := by
              rw [e1, List.any_map]; rfl
            rw [e2]
            exact q _ (s1.trans xx.hh)
        · rw [if_neg fun z => h2 z.2] at e1
          exact ⟨_, _, _, _, _, rfl, s1, e1⟩
      · rw [if_neg fun z => h z.1] at e1
        exact ⟨_, rfl, if_f rfl ⟨_, _, _, _, _, rfl, s1, e1⟩⟩
    · rintro σ H1 ⟨v3, v4, v5, v6, v7, rfl, s1, e1⟩
      have e0 : hasSq R x y = false := by
        rw [e1, List.drop_eq_nil_of_le]
        · rfl
        · rw [dpall_len hD, List.length_map]; exact Nat.le_refl _
      have := q H1 s1
      rw [e0] at this
      exact this
/-! ### rows, pieces, merging: the mathematics -/
def inS (ss : List Span) (x : Int) : Bool := ss.any fun s => decide (s.1 ≤ x ∧ x < s.2)
def segs (es : List Int) : List (Int × Int) := es.zip es.tail
theorem segs_cons (a b : Int) (t : List Int) : segs (a :: b :: t) = (a, b) :: segs (b :: t) := rfl
theorem seg_mem : ∀ {es : List Int}, es.Pairwise (· < ·) → ∀ {b e : Int}, (b, e) ∈ segs es → b < e ∧ (∀ z ∈ es, z ≤ b ∨ e ≤ z) ∧ b ∈ es ∧ e ∈ es
  | [], _, _, _, h => by cases h
  | [a], _, _, _, h => by cases h
  | a :: c :: t, hp, b, e, h => by
    rw [segs_cons] at h
    have hp2 := List.pairwise_cons.mp hp
    rcases List.mem_cons.mp h with h | h
    · cases h
      have h1 := hp2.1 c List.mem_cons_self
      refine ⟨h1, fun z hz => ?_, List.mem_cons_self, List.mem_cons_of_mem _ List.mem_cons_self⟩
      rcases List.mem_cons.mp hz with rfl | hz
      · exact .inl (Int.le_refl _)
      · rcases List.mem_cons.mp hz with rfl | hz
        · exact .inr (Int.le_refl _)
        · exact .inr (Int.le_of_lt ((List.pairwise_cons.mp hp2.2).1 z hz))
    · obtain ⟨h1, h2, h3, h4⟩ := seg_mem hp2.2 h
      refine ⟨h1, fun z hz => ?_, List.mem_cons_of_mem _ h3, List.mem_cons_of_mem _ h4⟩
      rcases List.mem_cons.mp hz with rfl | hz
      · exact .inl (Int.le_of_lt (hp2.1 b h3))
      · exact h2 z hz
theorem seg_ex : ∀ {es : List Int} {l h x : Int}, l ∈ es → h ∈ es → l ≤ x → x < h → es.Pairwise (· < ·) → ∃ s ∈ segs es, s.1 ≤ x ∧ x < s.2
  | [], _, _, _, h1, _, _, _, _ => by cases h1
  | [a], l, h, x, h1, h2, h3, h4, _ => by
    cases List.mem_singleton.mp h1; cases List.mem_singleton.mp h2; omega
  | a :: c :: t, l, h, x, h1, h2, h3, h4, hp => by
    rw [segs_cons]
    have hp2 := List.pairwise_cons.mp hp
    have hac := hp2.1 c List.mem_cons_self
    by_cases hx : x < c
    · refine ⟨(a, c), List.mem_cons_self, ?_, hx⟩
      rcases List.mem_cons.mp h1 with rfl | h1
      · exact h3
      · have : c ≤ l := by
          rcases List.mem_cons.mp h1 with rfl | h1
          · exact Int.le_refl _
          · exact Int.le_of_lt ((List.pairwise_cons.mp hp2.2).1 l h1)
        show a ≤ x; omega
    · have hh : h ∈ c :: t := by
        rcases List.mem_cons.mp h2 with rfl | h2
        · omega
        · exact h2
      obtain ⟨s, hs, g⟩ := seg_ex (l := c) (h := h) (x := x) List.mem_cons_self hh (by omega) h4 hp2.2
      exact ⟨s, List.mem_cons_of_mem _ hs, g⟩
section
variable {r : Type} (lo hi : r → Int)
def rowAt (rows : List r) (p : Int) : Option r := rows.find? fun q => decide (lo q ≤ p ∧ p < hi q)
/-- rows one behind the other -/
structure Rows (rows : List r) : Prop where
  pos : ∀ q ∈ rows, lo q < hi q
  ord : rows.Pairwise fun p q => hi p ≤ lo q
variable {lo hi}
theorem rowAt_seg {rows : List r} {es : List Int} (hp : es.Pairwise (· < ·)) (he : ∀ q ∈ rows, lo q ∈ es ∧ hi q ∈ es) {b e x : Int} (hs : (b, e) ∈ segs es) (h1 : b ≤ x) (h2 : x < e) : rowAt lo hi rows x = rowAt lo hi rows b := by
  obtain ⟨_, g, _, _⟩ := seg_mem hp hs
  unfold rowAt
  induction rows with
  | nil => rfl
  | cons q t ih =>
    have e1 : decide (lo q ≤ x ∧ x < hi q) = decide (lo q ≤ b ∧ b < hi q) := by
      have g1 := g _ (he q List.mem_cons_self).1
      have g2 := g _ (he q List.mem_cons_self).2
      congr 1
      refine propext ⟨fun h => ?_, fun h => ?_⟩ <;> omega
    rw [List.find?_cons, List.find?_cons, e1, ih fun q hq => he q (List.mem_cons_of_mem _ hq)]
theorem rowAt_off {rows : List r} {es : List Int} (hp : es.Pairwise (· < ·)) (he : ∀ q ∈ rows, lo q ∈ es ∧ hi q ∈ es) {x : Int} (h : ∀ s ∈ segs es, ¬ (s.1 ≤ x ∧ x < s.2)) : rowAt lo hi rows x = none := by
  unfold rowAt
  refine List.find?_eq_none.mpr fun q hq => ?_
  intro c
  have c := of_decide_eq_true c
  obtain ⟨s, hs, g⟩ := seg_ex (he q hq).1 (he q hq).2 c.1 c.2 hp
  exact h s hs g
/-- the first row at or behind a place -/
theorem rowAt_idx {rows : List r} (R : Rows lo hi rows) {p : Int} {i : Nat} (h1 : ∀ j q, j < i → rows[j]? = some q → hi q ≤ p) (h2 : ∀ q, rows[i]? = some q → p < hi q) :
    rowAt lo hi rows p = (rows[i]?).filter fun q => decide (lo q ≤ p) := by
  unfold rowAt
  induction rows generalizing i with
  | nil => rfl
  | cons q t ih =>
    have R2 : Rows lo hi t := ⟨fun q hq => R.pos q (List.mem_cons_of_mem _ hq), (List.pairwise_cons.mp R.ord).2⟩
    match i with
    | 0 =>
      have g := h2 q rfl
      show List.find? _ _ = (some q).filter _
      rw [List.find?_cons, Option.filter_some]
      by_cases c : lo q ≤ p
      · rw [decide_eq_true ⟨c, g⟩, decide_eq_true c]; rfl
      · rw [decide_eq_false fun z => c z.1, decide_eq_false c]
        refine List.find?_eq_none.mpr fun q2 hq2 => ?_
        have o := (List.pairwise_cons.mp R.ord).1 q2 hq2
        have p1 := R.pos q List.mem_cons_self
        rw [decide_eq_true_eq]; omega
    | i + 1 =>
      have g := h1 0 q (Nat.succ_pos _) rfl
      rw [List.find?_cons, decide_eq_false fun z => by omega]
      exact ih R2 (fun j q hj hq => h1 (j + 1) q (Nat.succ_lt_succ hj) hq) fun q hq => h2 q hq
end
/-! merging -/
section
variable {e : Type} (cond : e → e → Bool) (join : e → e → e)
def mstep (acc : List e) (q : e) : List e := match acc.getLast? with
  | some p => if cond p q = true then acc.dropLast ++ [join p q] else acc ++ [q]
  | none => [q]
def merge (qs : List e) : List e := qs.foldl (mstep cond join) []
theorem merge_snoc (qs : List e) (q : e) : merge cond join (qs ++ [q]) = mstep cond join (merge cond join qs) q := by
  unfold merge; rw [List.foldl_append]; rfl
theorem mstep_last (acc : List e) (p q : e) : mstep cond join (acc ++ [p]) q = if cond p q = true then acc ++ [join p q] else acc ++ [p] ++ [q] := by
  unfold mstep
  rw [List.getLast?_append, List.getLast?_singleton]
  show (if cond p q = true then (acc ++ [p]).dropLast ++ [join p q] else _) = _
  rw [List.dropLast_concat]
theorem last_cases (acc : List e) : acc = [] ∨ ∃ a p, acc = a ++ [p] := by
  rcases List.eq_nil_or_concat acc with h | ⟨a, p, h⟩
  · exact .inl h
  · exact .inr ⟨a, p, by simpa using h⟩
theorem merge_any (cov : e → Bool) (val : e → Prop) (hj : ∀ p q, val p → val q → cond p q = true → val (join p q) ∧ cov (join p q) = (cov p || cov q)) :
    ∀ (n : Nat) (qs : List e), qs.length = n → (∀ q ∈ qs, val q) → (∀ q ∈ merge cond join qs, val q) ∧ (merge cond join qs).any cov = qs.any cov := by
  intro n
  induction n with
  | zero => intro qs h _; cases List.eq_nil_of_length_eq_zero h; exact ⟨fun q hq => (by cases hq), rfl⟩
  | succ n ih =>
    intro qs h hv
    rcases last_cases qs with rfl | ⟨a, q, rfl⟩
    · cases h
    have ha : ∀ z ∈ a, val z := fun z hz => hv z (List.mem_append_left _ hz)
    have hq : val q := hv q (List.mem_append_right _ List.mem_cons_self)
    obtain ⟨i1, i2⟩ := ih a (by rw [List.length_append] at h; simpa using h) ha
    rw [merge_snoc, List.any_append, ← i2]
    generalize merge cond join a = m at i1 i2
    rcases last_cases m with rfl | ⟨b, p, rfl⟩
    · exact ⟨fun z hz => by cases List.mem_singleton.mp hz; exact hq, rfl⟩
    rw [mstep_last]
    have hp : val p := i1 p (List.mem_append_right _ List.mem_cons_self)
    by_cases c : cond p q = true
    · rw [if_pos c]
      obtain ⟨v, cv⟩ := hj p q hp hq c
      refine ⟨fun z hz => ?_, ?_⟩
      · rcases List.mem_append.mp hz with hz | hz
        · exact i1 z (List.mem_append_left _ hz)
        · cases List.mem_singleton.mp hz; exact v
      · simp only [List.any_append, List.any_cons, List.any_nil, Bool.or_false, cv, Bool.or_assoc]
    · rw [if_neg c]
      refine ⟨fun z hz => ?_, ?_⟩
      · rcases List.mem_append.mp hz with hz | hz
        · exact i1 z hz
        · cases List.mem_singleton.mp hz; exact hq
      · rw [List.any_append]
theorem merge_rows {lo hi : e → Int} (hl : ∀ p q, lo (join p q) = lo p) (hh : ∀ p q, hi (join p q) = hi q) :
    ∀ (n : Nat) (qs : List e), qs.length = n → Rows lo hi qs → Rows lo hi (merge cond join qs) ∧ (∀ z ∈ merge cond join qs, ∃ p ∈ qs, ∃ q ∈ qs, lo z = lo p ∧ hi z = hi q) := by
  intro n
  induction n with
  | zero => intro qs h _; cases List.eq_nil_of_length_eq_zero h; exact ⟨⟨fun q hq => (by cases hq), List.Pairwise.nil⟩, fun z hz => (by cases hz)⟩
  | succ n ih =>
    intro qs h R
    rcases last_cases qs with rfl | ⟨a, q, rfl⟩
    · cases h
    have pw := List.pairwise_append.mp R.ord
    have Ra : Rows lo hi a := ⟨fun z hz => R.pos z (List.mem_append_left _ hz), pw.1⟩
    have hq := R.pos q (List.mem_append_right _ List.mem_cons_self)
    have hb : ∀ z ∈ a, hi z ≤ lo q := fun z hz => pw.2.2 z hz q List.mem_cons_self
    obtain ⟨i1, i2⟩ := ih a (by rw [List.length_append] at h; simpa using h) Ra
    rw [merge_snoc]
    have i2' : ∀ z ∈ merge cond join a, ∃ p ∈ a ++ [q], ∃ q' ∈ a ++ [q], lo z = lo p ∧ hi z = hi q' := fun z hz => by
      obtain ⟨p, hp, q', hq', e⟩ := i2 z hz
      exact ⟨p, List.mem_append_left _ hp, q', List.mem_append_left _ hq', e⟩
    have i3 : ∀ z ∈ merge cond join a, hi z ≤ lo q := fun z hz => by
      obtain ⟨p, hp, q', hq', e⟩ := i2 z hz
      rw [e.2]; exact hb q' hq'
    have mq : q ∈ a ++ [q] := List.mem_append_right _ List.mem_cons_self
    generalize merge cond join a = m at i1 i2' i3
    rcases last_cases m with rfl | ⟨b, p, rfl⟩
    · exact ⟨⟨fun z hz => by cases List.mem_singleton.mp hz; exact hq, List.pairwise_singleton _ _⟩, fun z hz => by cases List.mem_singleton.mp hz; exact ⟨q, mq, q, mq, rfl, rfl⟩⟩
    rw [mstep_last]
    have pw2 := List.pairwise_append.mp i1.ord
    have hp := i1.pos p (List.mem_append_right _ List.mem_cons_self)
    have hpq := i3 p (List.mem_append_right _ List.mem_cons_self)
    by_cases c : cond p q = true
    · rw [if_pos c]
      refine ⟨⟨fun z hz => ?_, List.pairwise_append.mpr ⟨pw2.1, List.pairwise_singleton _ _, fun z hz y hy => ?_⟩⟩, fun z hz => ?_⟩
      · rcases List.mem_append.mp hz with hz | hz
        · exact i1.pos z (List.mem_append_left _ hz)
        · cases List.mem_singleton.mp hz; rw [hl, hh]; omega
      · cases List.mem_singleton.mp hy; rw [hl]; exact pw2.2.2 z hz p List.mem_cons_self
      · rcases List.mem_append.mp hz with hz | hz
        · exact i2' z (List.mem_append_left _ hz)
        · cases List.mem_singleton.mp hz
          obtain ⟨p1, hp1, _, _, e1, _⟩ := i2' p (List.mem_append_right _ List.mem_cons_self)
          exact ⟨p1, hp1, q, mq, by rw [hl]; exact e1, by rw [hh]⟩
    · rw [if_neg c]
      refine ⟨⟨fun z hz => ?_, List.pairwise_append.mpr ⟨i1.ord, List.pairwise_singleton _ _, fun z hz y hy => ?_⟩⟩, fun z hz => ?_⟩
      · rcases List.mem_append.mp hz with hz | hz
        · exact i1.pos z hz
        · cases List.mem_singleton.mp hz; exact hq
      · cases List.mem_singleton.mp hy; exact i3 z hz
      · rcases List.mem_append.mp hz with hz | hz
        · exact i2' z hz
        · cases List.mem_singleton.mp hz; exact ⟨q, mq, q, mq, rfl, rfl⟩
end
/-! ### set(xs) of a list of ints, and sorted of it (our own rule; its road is that of the library's rule for tuples) -/
section
open PySem.Spec PyProof.Rows
variable {P : Program} {w : World} {A : Around} {E : Value → Shared → Prop} {s : Shared}
abbrev newS (w : World) : Obj := ⟨.type "set", none, .set #[] 0 (.fresh 0 0 (!w.params.followText "set-order")), #[]⟩
/-- what is known behind the filling -/
def Filled (w : World) (s : Shared) (ns : List Int) (s2 : Shared) : Prop := ∃ (h' : Heap) (tk c : Nat), s2 = { s with heap := h', toks := tk } ∧ SetR w h' s.heap.objs.size (fun j => decide (j ∈ ns)) c ∧ c ≤ ns.length ∧ ∀ b o, s.heap.get? b = some o → h'.get? b = some o
theorem fill_at {items : Array Value} {ns : List Int} (hit : PyProof.Rows.IntsAre items.toList ns) : ∀ (i : Nat) (v : Value), items[i]? = some v → ∃ k t, ns[i]? = some k ∧ v = .int k t := by
  intro i v hv
  have hl : i < items.size := (Array.getElem?_eq_some_iff.mp hv).1
  have e1 : items.toList.length = ns.length := PyProof.Rows.IntsAre.length hit
  have hi : i < ns.length := by rw [← e1, Array.length_toList]; exact hl
  obtain ⟨t, e⟩ := PyProof.Rows.IntsAre.int_at hit i v (by rw [Array.getElem?_toList, hv])
  exact ⟨_, t, List.getElem?_eq_getElem hi, by rw [e, List.getD_eq_getElem?_getD, List.getElem?_eq_getElem hi]; rfl⟩
theorem call_set_listI {l : Addr} {items : Array Value} (ns : List Int) {Q : Value → Shared → Prop} (hh : A.handled = none) (hl : s.heap.IsList l items) (hit : PyProof.Rows.IntsAre items.toList ns) (hb : ns.length + 1 < scanBound)
    (h : ∀ s2, Filled w s ns s2 → Q (.ref s.heap.objs.size) s2) : wpAny (model P w) A (call (.type "set") [.ref l]) Q E s := by
  have n0 : items.size = ns.length := by rw [← Array.length_toList]; exact PyProof.Rows.IntsAre.length hit
  obtain ⟨_, _, _⟩ := F.called_set.mro
  refine wpAny_call (codeAny_of_tree (show wpAny _ _ (callAny (.type "set") _) _ _ _ from wpAny_pure ⟨Code.quiet_builtin _ (by decide +kernel), codeAny_builtin F.entry_type_call (by
    rw [Around.under_plain (weight_type_call_type "set" [.ref l] []) rfl]
    have c1 := F.called_set.made
    have c2 := F.called_set.sub
    have c3 := F.called_set.notType
    have c4 := F.called_set.canCreate
    have c5 := F.typeCall_set_1 (.ref l)
    repeat (any_goals (first | assumption | wp_step))
    refine codeAny_mono (code_set_led1 (E := E) (.ref l) (Q₁ := fun obj s1 => obj = .ref s.heap.objs.size ∧ s1 = { s with heap := s.heap.push (newS w) }) ⟨rfl, rfl⟩) ?_
    intro f s1 hr
    match f, hr with
    | .error e, hr => exact hr
    | .ok (.ret obj), hr =>
      obtain ⟨rfl, rfl⟩ := hr
      have g0 : (s.heap.push (newS w)).get? s.heap.objs.size = some (newS w) := Heap.get?_push_size _ rfl
      have ty : Shared.TypeIs { s with heap := s.heap.push (newS w) } (.ref s.heap.objs.size) "set" := ⟨_, g0, rfl⟩
      have d1 := F.called_set.init.lookup
      have d2 := F.called_set.init.bind (.ref s.heap.objs.size)
      repeat (any_goals (first | assumption | wp_step))
      refine codeAny_mono (codeAny_call_builtin (R := wants (fun r s2 => r = .none ∧ Filled w s ns s2) E) F.called_set.init.plain F.entry_set_init (check_set_init_1 ty ?_)) ?_
      · obtain ⟨⟨c, od, dt, sl⟩, ho, hc, nn, hd⟩ := hl
        cases (show c = _ from hc)
        cases (show dt = _ from hd)
        have ll : l < s.heap.objs.size := Heap.lt_size ho
        have o1 : (s.heap.push (newS w)).get? l = some ⟨.type "list", od, .seq items nn, sl⟩ := Heap.get?_push_of_some _ ho
        have l1 : (s.heap.push (newS w)).IsList l items := ⟨_, o1, rfl, nn, rfl⟩
        have b1 := F.sub_list_set
        have b2 := F.sub_list_frozenset
        have b3 : (Value.type "list" == Value.type "dict") = false := by decide
        unfold Builtin.«set.__init__» noKeywords Builtin.Frozenset.updateFrom
        generalize hPI : pyIter = PI
        wp_walk
        subst hPI
        refine wpAny_pyIter_list l1 (wpAny_bind (wpAny_runValue ?_))
        have sz : (s.heap.push (newS w)).objs.size = s.heap.objs.size + 1 := Heap.size_push ..
        have hh3 : A.in1.in1.in1.handled = none := by simp [hh]
        have fr : s.heap.objs.size ∉ [(s.heap.push (newS w)).objs.size, l] := fun z => by
          rw [sz] at z
          rcases List.mem_cons.mp z with e | e
          · exact absurd e (Nat.ne_of_lt (Nat.lt_succ_self _))
          · exact absurd (List.mem_singleton.mp e) (Nat.ne_of_gt ll)
        have old : ∀ b o, s.heap.get? b = some o → ∀ u : Obj, ((s.heap.push (newS w)).push u).get? b = some o := fun b o e u => Heap.get?_push_of_some _ (Heap.get?_push_of_some _ e)
        refine set_update_ints ((Walks.list hh3 _ l (by rw [sz]; exact Nat.ne_of_lt (Nat.lt_succ_of_lt ll)) items).toS) s.heap.objs.size fr ns n0 hb (fill_at hit) items.size 0 _ rfl (Nat.zero_le _) ⟨⟨_, Heap.get?_push_size _ rfl, rfl, rfl⟩, l1.push _⟩ ⟨0, Nat.le_refl 0, setR_new_at (Heap.get?_push_of_some _ g0)⟩ ?_
        rintro ⟨h', g2, d', tk', os'⟩ c' hm hc' hS'
        cases (show g2 = s.gens from hm.gens)
        cases (show d' = s.drawn from hm.drawn)
        cases (show os' = s.os from hm.os)
        refine wpAny_pure (wpAny_pure ⟨rfl, h', tk', c', rfl, hS', by omega, fun b o e => hm.heap b o ?_ (old b o e _)⟩)
        have hb0 : b < s.heap.objs.size := Heap.lt_size e
        intro z
        rw [sz] at z
        rcases List.mem_cons.mp z with e | e
        · exact absurd e (Nat.ne_of_lt hb0)
        · exact absurd (List.mem_singleton.mp e) (Nat.ne_of_lt (Nat.lt_succ_of_lt hb0))
      · intro f2 s2 hr2
        match f2, hr2 with
        | .error e, hr2 => exact hr2
        | .ok (.ret r), hr2 =>
          obtain ⟨rfl, hf⟩ := hr2
          repeat (any_goals (first | assumption | wp_step))
          exact h _ hf
        | .ok .next, hr2 => exact hr2.elim
        | .ok .brk, hr2 => exact hr2.elim
        | .ok .cont, hr2 => exact hr2.elim
    | .ok .next, hr => exact hr.elim
    | .ok .brk, hr => exact hr.elim
    | .ok .cont, hr => exact hr.elim)⟩))
end
section
open PySem.Spec PyProof.Rows
variable {X : Cx}
theorem nodup_few : ∀ (d m : List Int), d.Nodup → (∀ k, k ∈ d → k ∈ m) → d.length ≤ m.length
  | [], m, _, _ => Nat.zero_le _
  | a :: t, m, hd, hm => by
    have h := List.nodup_cons.mp hd
    have ha := hm a List.mem_cons_self
    have ih := nodup_few t (m.erase a) h.2 fun k hk => (List.mem_erase_of_ne (fun (e : k = a) => h.1 (by rw [← e]; exact hk))).mpr (hm k (List.mem_cons_of_mem _ hk))
    have hl := List.length_erase_of_mem ha
    have hp : 0 < m.length := List.length_pos_of_mem ha
    rw [List.length_cons]
    omega
/-- a set has no more than any list that has all of it -/
theorem setR_few {w : World} {h : Heap} {a : Addr} {ns : List Int} {c : Nat} (R : SetR w h a (fun j => decide (j ∈ ns)) c) : ∀ es : List Int, (∀ k, k ∈ ns → k ∈ es) → c ≤ es.length := by
  obtain ⟨o, es, ep, t, _, _, _, _, hn, hm, _, _, hc, _⟩ := R
  intro xs hx
  have := nodup_few (List.map keyOf es.toList) xs hn fun k hk => hx k (of_decide_eq_true ((hm k).mpr hk))
  rw [List.length_map, Array.length_toList, hc] at this
  exact this
/-- set(xs), xs a list of ints -/
def rSetI (K : PySem.W.Frag) (w : World) : List V → Hp → VK → Prop := fun xs H Q => ∃ (l : Addr) (ns : List Int), xs = [V.ref l] ∧ SqL K H l (ns.map V.int) ∧ ns.length + 1 < scanBound ∧
  ∀ a c, H a = none → c ≤ ns.length → (∀ es : List Int, (∀ k, k ∈ ns → k ∈ es) → c ≤ es.length) → Q (.ref a) (upd H a (SetO w a (fun j => decide (j ∈ ns)) c))
theorem cr_setI (hc : X.calm = true) : CallR X (.type "set") (rSetI X.K X.w) := by
  intro pins s σ H xs us Q I r h
  obtain ⟨l, ns, rfl, hl, hb, q⟩ := h
  rw [Vals.ref1 r]
  obtain ⟨its, rv, pl, hz⟩ := I.list hl
  refine call_set_listI (P := X.prog) (w := X.w) ns (I.ok.hd hc) pl.isList (by simpa using ints_of_vals rv) hb fun s2 ⟨h', tk, c, e, R, hcn, k⟩ => ?_
  subst e
  exact ⟨.ref s.heap.objs.size, _, I.laid (t' := tk) k (Nat.le_refl _) (setO_new R), rfl, q _ c (I.hok.fresh (Nat.le_refl _)) hcn (setR_few R)⟩
end
/-! ### rows in lists and in tuples: the defs -/
def RowOf (K : PySem.W.Frag) {r : Type} (lo hi : r → Int) (D : r → PyData) : Prop := ∀ (H : Hp) (v : V) (q : r), Dp K H v (D q) → ∃ p rest, v = .ref p ∧ SqT K H p (.int (lo q) :: .int (hi q) :: rest)
def oD {r : Type} (D : r → PyData) : Option r → PyData
  | none => .none
  | some q => D q
theorem sc__first_ending_behind : FnScope ["rows", "at", "place"] ["rows", "at", "place"] (defScope s__first_ending_behind) := ⟨rfl, rfl, rfl, by decide +kernel, rfl, by decide +kernel, by decide +kernel⟩
theorem sc__row_from : FnScope ["rows", "at", "place"] ["rows", "at", "place"] (defScope s__row_from) := ⟨rfl, rfl, rfl, by decide +kernel, rfl, by decide +kernel, by decide +kernel⟩
theorem sc__pieces : FnScope ["a", "b", "edges", "row", "pieces", "at_a", "at_b", "begin", "end"] ["a", "b"] (defScope s__pieces) := ⟨rfl, rfl, rfl, by decide +kernel, rfl, by decide +kernel, by decide +kernel⟩
def pieceD {r : Type} (lo hi : r → Int) (D : r → PyData) (Aa Bb : List r) (s : Int × Int) : PyData := .tuple [.int s.1, .int s.2, oD D (rowAt lo hi Aa s.1), oD D (rowAt lo hi Bb s.1)]
def edgeL {r : Type} (lo hi : r → Int) (Aa Bb : List r) : List Int := ((Aa.map lo ++ Aa.map hi) ++ Bb.map lo) ++ Bb.map hi
theorem few_e0 {r : Type} {lo hi : r → Int} {Aa Bb : List r} (h : Aa.length + Bb.length < 30) : ∃ e0 : List Int, (∀ k, k ∈ edgeL lo hi Aa Bb → k ∈ e0) ∧ e0.length < 64 :=
  ⟨edgeL lo hi Aa Bb, fun _ h => h, by unfold edgeL; simp only [List.length_append, List.length_map]; omega⟩
theorem row_at {K : PySem.W.Frag} {r : Type} {lo hi : r → Int} {D : r → PyData} (hD : RowOf K lo hi D) {U : Hp} {xs : List V} {rows : List r} (hX : DpAll K U xs (rows.map D)) (i : Nat) (v : V) (h : xs[i]? = some v) : ∃ pr rest q, rows[i]? = some q ∧ v = .ref pr ∧ SqT K U pr (.int (lo q) :: .int (hi q) :: rest) := by
  obtain ⟨d, hd, dv⟩ := dpall_get hX h
  rw [List.getElem?_map] at hd
  obtain ⟨q, hq, rfl⟩ := Option.map_eq_some_iff.mp hd
  obtain ⟨pr, rest, e, h2⟩ := hD _ _ _ dv
  exact ⟨pr, rest, q, hq, e, h2⟩
theorem cut_tail (xs : List V) : cutV xs (some 1) none = xs.tail := by
  show (xs.drop (min 1 xs.length)).take (xs.length - min 1 xs.length) = xs.tail
  cases xs with
  | nil => rfl
  | cons a t =>
    have e : min 1 (a :: t).length = 1 := by simp [Nat.min_def]
    rw [e]
    show t.take ((a :: t).length - 1) = t
    simp
theorem segs_len (es : List Int) : (segs es).length = min es.length es.tail.length := List.length_zip
theorem segs_at {es : List Int} {i : Nat} {x y : V} (h1 : (es.map V.int)[i]? = some x) (h2 : (es.map V.int).tail[i]? = some y) : ∃ b e, x = .int b ∧ y = .int e ∧ (segs es)[i]? = some (b, e) := by
  rw [List.getElem?_map] at h1
  rw [← List.map_tail, List.getElem?_map] at h2
  obtain ⟨b, hb, rfl⟩ := Option.map_eq_some_iff.mp h1
  obtain ⟨e, he, rfl⟩ := Option.map_eq_some_iff.mp h2
  exact ⟨b, e, rfl, rfl, List.getElem?_zip_eq_some.mpr ⟨hb, he⟩⟩
theorem segs_asc : ∀ {es : List Int}, es.Pairwise (· < ·) → ∀ {i j : Nat} {s t : Int × Int}, i ≤ j → (segs es)[i]? = some s → (segs es)[j]? = some t → s.1 ≤ t.1
  | [], _, i, j, s, t, _, h, _ => by cases h
  | [a], _, i, j, s, t, _, h, _ => by cases h
  | a :: c :: r, hp, i, j, s, t, hij, h1, h2 => by
    rw [segs_cons] at h1 h2
    have hp2 := List.pairwise_cons.mp hp
    match i, j, h1, h2 with
    | 0, 0, h1, h2 => cases h1; cases h2; exact Int.le_refl _
    | 0, j + 1, h1, h2 =>
      cases h1
      have m := seg_mem hp2.2 (b := t.1) (e := t.2) (List.mem_of_getElem? h2)
      exact Int.le_of_lt (hp2.1 _ m.2.2.1)
    | i + 1, 0, h1, h2 => omega
    | i + 1, j + 1, h1, h2 => exact segs_asc hp2.2 (i := i) (j := j) (by omega) h1 h2
def sp__first_ending_behind_L (K : PySem.W.Frag) : Sp := fun vs H Q _ => ∃ (r : Type) (lo hi : r → Int) (D : r → PyData) (rows : List r) (p : Addr) (xs : List V) (i : Nat) (pl : Int), vs = [.ref p, .int (i : Int), .int pl] ∧ RowOf K lo hi D ∧ SqL K H p xs ∧ DpAll K H xs (rows.map D) ∧ i ≤ rows.length ∧ (∀ (j : Nat) (q : r), j < i → rows[j]? = some q → hi q ≤ pl) ∧
  ∀ i' : Nat, i' ≤ rows.length → (∀ (j : Nat) (q : r), j < i' → rows[j]? = some q → hi q ≤ pl) → (∀ q, rows[i']? = some q → pl < hi q) → Q (.int (i' : Int)) H
theorem ok__first_ending_behind_L (T : Txt K mg A) : FnOk P w K mg base CX0 1 A.f_first_ending_behind A.d_first_ending_behind ["rows", "at", "place"] (sp__first_ending_behind_L K) := by
  refine T.F_first_ending_behind.ok sc__first_ending_behind (fun vs H Q E h => ?_) (fun cdv Ar outer s H vs Q E hr h => ?_)
  · obtain ⟨_, _, _, _, _, _, _, _, _, rfl, _⟩ := h
    rfl
  · obtain ⟨r, lo, hi, D, rows, p, xs, i, pl, rfl, hD, hS, hX, hi0, hb, q⟩ := h
    refine ⟨_, (pss_cons (ps_while PassesOwn.never (PW.pt (pw_and (pt_cmpR op_lt (pv 1) (pe_callB call_len_seq (by rfl) T.len PySem.boot_len (pa_cons (pv 0) pa_nil)) (nomark _)) (pw_and1 (pt_cmpR op_le (pe_ix (r := rIxT K) ix_tup (pe_ix (r := rIxL K) ix_list (pv 0) (pv 1) (fun _ _ => rfl)) pe_int (fun _ _ => rfl)) (pv 2) (nomark _)))))
      (pss_one (ps_aug (i := 1) sc__first_ending_behind.nd rfl (Or.inl rfl) pe_int ip_add)))
      (pss_one (ps_ret (pv 1)))), ?_⟩
    have hx : xs.length = rows.length := by rw [dpall_len hX, List.length_map]
    refine ⟨fun m σ H' => H' = H ∧ ∃ k : Nat, σ = [some (.ref p), some (.int (k : Int)), some (.int pl)] ∧ k ≤ rows.length ∧ m = rows.length - k ∧ ∀ (j : Nat) (q : r), j < k → rows[j]? = some q → hi q ≤ pl, ⟨_, rfl, i, rfl, hi0, rfl, hb⟩, ?_⟩
    rintro m σ H' ⟨rfl, k, rfl, hk, rfl, hkb⟩
    have fin : (∀ q, rows[k]? = some q → pl < hi q) → tRet (tVar 1) { nx := fun x H' => Q V.non H', rt := Q } [some (.ref p), some (.int (k : Int)), some (.int pl)] H' := fun h => ⟨_, rfl, q k hk hkb h⟩
    refine ⟨_, rfl, _, rfl, p, _, rfl, .inl hS, _, _, rfl, rfl, _, rfl, iteP (fun h => ?_) (fun h => ?_)⟩
    · have hk2 : k < rows.length := by rw [← hx]; omega
      have hr' := List.getElem?_eq_getElem hk2
      obtain ⟨v, hv, dv⟩ := dpall_get' hX (i := k) (d := D rows[k]) (by rw [List.getElem?_map, hr']; rfl)
      obtain ⟨pr, rest, rfl, hpr⟩ := hD _ _ _ dv
      generalize rows[k] = row at hr' dv hpr
      refine ⟨_, rfl, _, rfl, p, _, _, _, rfl, rfl, hS, atI_nat hv, pr, _, _, _, rfl, rfl, hpr, atI_nat (j := 1) rfl, _, rfl, _, _, rfl, rfl, _, rfl, iteP (fun h2 => ?_) (fun h2 => ?_)⟩
      · refine ⟨fun σ' H2 => H2 = H' ∧ σ' = [some (.ref p), some (.int ((k + 1 : Nat) : Int)), some (.int pl)], ?_, ?_⟩
        · rintro σ' H2 ⟨rfl, rfl⟩
          refine ⟨rows.length - (k + 1), by omega, rfl, k + 1, rfl, hk2, rfl, fun j q hj hq => ?_⟩
          by_cases e : j = k
          · subst e; rw [hr'] at hq; cases hq; exact h2
          · exact hkb j q (by omega) hq
        · exact ⟨_, rfl, _, _, rfl, rfl, rfl, by rw [Int.natCast_add]; rfl⟩
      · exact fin fun q hq => by rw [hr'] at hq; cases hq; omega
    · exact fin fun q hq => by
        have := (List.getElem?_eq_some_iff.mp hq).1
        rw [hx] at h; omega
def sp__row_from_L (K : PySem.W.Frag) : Sp := fun vs H Q _ => ∃ (r : Type) (lo hi : r → Int) (D : r → PyData) (rows : List r) (p : Addr) (xs : List V) (i : Nat) (pl : Int) (U : Hp), vs = [.ref p, .int (i : Int), .int pl] ∧ RowOf K lo hi D ∧ Same U H ∧ SqL K U p xs ∧ DpAll K U xs (rows.map D) ∧
  ∀ v, Dp K U v (oD D ((rows[i]?).filter fun q => decide (lo q ≤ pl))) → Q v H
theorem ok__row_from_L (T : Txt K mg A) : FnOk P w K mg base CX0 1 A.f_row_from A.d_row_from ["rows", "at", "place"] (sp__row_from_L K) := by
  refine T.F_row_from.ok sc__row_from (fun vs H Q E h => ?_) (fun cdv Ar outer s H vs Q E hr h => ?_)
  · obtain ⟨_, _, _, _, _, _, _, _, _, _, rfl, _⟩ := h
    rfl
  · obtain ⟨r, lo, hi, D, rows, p, xs, i, pl, U, rfl, hD, sU, hS0, hX, q⟩ := h
    have hS := sU.seq hS0
    refine ⟨_, (pss_one (ps_ret (pe_ifExp (PW.pt (pw_and (pt_cmpR op_lt (pv 1) (pe_callB call_len_seq (by rfl) T.len PySem.boot_len (pa_cons (pv 0) pa_nil)) (nomark _)) (pw_and1 (pt_cmpR op_le (pe_ix (r := rIxT K) ix_tup (pe_ix (r := rIxL K) ix_list (pv 0) (pv 1) (fun _ _ => rfl)) pe_int (fun _ _ => rfl)) (pv 2) (nomark _))))) (pe_ix (r := rIxL K) ix_list (pv 0) (pv 1) (fun _ _ => rfl)) pe_non))), ?_⟩
    have hx : xs.length = rows.length := by rw [dpall_len hX, List.length_map]
    refine ⟨_, rfl, _, rfl, p, _, rfl, .inl hS, _, _, rfl, rfl, _, rfl, iteP (fun h => ?_) (fun h => ?_)⟩
    · have hk2 : i < rows.length := by rw [← hx]; omega
      have hr' := List.getElem?_eq_getElem hk2
      obtain ⟨v, hv, dv⟩ := dpall_get' hX (i := i) (d := D rows[i]) (by rw [List.getElem?_map, hr']; rfl)
      obtain ⟨pr, rest, rfl, hpr0⟩ := hD _ _ _ dv
      have hpr := sU.sqt hpr0
      generalize rows[i] = row at hr' dv hpr0 hpr
      rw [hr'] at q
      refine ⟨_, rfl, _, rfl, p, _, _, _, rfl, rfl, hS, atI_nat hv, pr, _, _, _, rfl, rfl, hpr, atI_nat (j := 0) rfl, _, rfl, _, _, rfl, rfl, _, rfl, iteP (fun h2 => ?_) (fun h2 => ?_)⟩
      · refine ⟨_, rfl, _, rfl, p, _, _, _, rfl, rfl, hS, atI_nat hv, q _ ?_⟩
        rw [Option.filter_some, decide_eq_true h2]; exact dv
      · refine q _ ?_
        rw [Option.filter_some, decide_eq_false h2]; exact .non
    · refine q _ ?_
      rw [List.getElem?_eq_none (by rw [hx] at h; omega)]
      exact .non
def sp__pieces_L (K : PySem.W.Frag) : Sp := fun vs H Q _ => ∃ (r : Type) (lo hi : r → Int) (D : r → PyData) (Aa Bb : List r) (pa pb : Addr) (xa xb : List V) (U : Hp), vs = [.ref pa, .ref pb] ∧ RowOf K lo hi D ∧ Same U H ∧ SqL K U pa xa ∧ DpAll K U xa (Aa.map D) ∧ SqL K U pb xb ∧ DpAll K U xb (Bb.map D) ∧
  Rows lo hi Aa ∧ Rows lo hi Bb ∧ Aa.length + Bb.length < 900 ∧ (∃ e0 : List Int, (∀ k, k ∈ edgeL lo hi Aa Bb → k ∈ e0) ∧ e0.length < 64) ∧
  ∀ v U' H' es, Ext U H U' H' → es.length < 64 → es.Pairwise (· < ·) → (∀ k, k ∈ es ↔ k ∈ edgeL lo hi Aa Bb) → Dp K U' v (.list ((segs es).map (pieceD lo hi D Aa Bb))) → Q v H'
theorem ok__pieces_L (T : Txt K mg A) : FnOk P w K mg base CX0 2 A.f_pieces A.d_pieces ["a", "b"] (sp__pieces_L K) := by
  refine T.F_pieces.ok sc__pieces (fun vs H Q E h => ?_) (fun cdv Ar outer s H vs Q E hr h => ?_)
  · obtain ⟨_, _, _, _, _, _, _, _, _, _, _, rfl, _⟩ := h
    rfl
  · obtain ⟨r, lo, hi, D, Aa, Bb, pa, pb, xa, xb, U, rfl, hD, sU, hSa, hXa, hSb, hXb, Ra, Rb, hln, ⟨e0, he0, hl0⟩, q⟩ := h
    refine ⟨_, (C8.pss_cut (ps_set (i := 2) sc__pieces.nd rfl (Or.inl rfl) (pe_callB (cr_sortedSet rfl) (by rfl) T.sorted (by decide +kernel) (pa_cons (pe_callTy (cr_setI rfl) (by rfl) T.set (by decide +kernel) (pa_cons (pe_op op_cat (pe_op op_cat (pe_op op_cat (pe_lc (own := [("row", 3)]) (g := (gName 3)) (tt := tYes) rfl sc__pieces.nd (pi_list (pv 0)) (blkOk_by (own := [("row", 3)]) (N := ["a", "b", "edges", "row", "pieces", "at_a", "at_b", "begin", "end"]) (sc := defScope s__pieces) (by decide +kernel)) (fun _ _ _ _ _ => (pg_name (i := 3) sc__pieces.nd rfl (Or.inl rfl))) (fun _ _ _ _ _ => pts_nil) (fun _ _ _ _ _ => by exact (pe_ix (r := rIxT K) ix_tup (pv 3) pe_int (fun _ _ => rfl)))) (pe_lc (own := [("row", 3)]) (g := (gName 3)) (tt := tYes) rfl sc__pieces.nd (pi_list (pv 0)) (blkOk_by (own := [("row", 3)]) (N := ["a", "b", "edges", "row", "pieces", "at_a", "at_b", "begin", "end"]) (sc := defScope s__pieces) (by decide +kernel)) (fun _ _ _ _ _ => (pg_name (i := 3) sc__pieces.nd rfl (Or.inl rfl))) (fun _ _ _ _ _ => pts_nil) (fun _ _ _ _ _ => by exact (pe_ix (r := rIxT K) ix_tup (pv 3) pe_int (fun _ _ => rfl))))) (pe_lc (own := [("row", 3)]) (g := (gName 3)) (tt := tYes) rfl sc__pieces.nd (pi_list (pv 1)) (blkOk_by (own := [("row", 3)]) (N := ["a", "b", "edges", "row", "pieces", "at_a", "at_b", "begin", "end"]) (sc := defScope s__pieces) (by decide +kernel)) (fun _ _ _ _ _ => (pg_name (i := 3) sc__pieces.nd rfl (Or.inl rfl))) (fun _ _ _ _ _ => pts_nil) (fun _ _ _ _ _ => by exact (pe_ix (r := rIxT K) ix_tup (pv 3) pe_int (fun _ _ => rfl))))) (pe_lc (own := [("row", 3)]) (g := (gName 3)) (tt := tYes) rfl sc__pieces.nd (pi_list (pv 1)) (blkOk_by (own := [("row", 3)]) (N := ["a", "b", "edges", "row", "pieces", "at_a", "at_b", "begin", "end"]) (sc := defScope s__pieces) (by decide +kernel)) (fun _ _ _ _ _ => (pg_name (i := 3) sc__pieces.nd rfl (Or.inl rfl))) (fun _ _ _ _ _ => pts_nil) (fun _ _ _ _ _ => by exact (pe_ix (r := rIxT K) ix_tup (pv 3) pe_int (fun _ _ => rfl))))) pa_nil)) pa_nil)))
      (pss_cons (ps_set (i := 4) sc__pieces.nd rfl (Or.inl rfl) (pe_lst pa_nil))
      (pss_cons (ps_set (i := 5) sc__pieces.nd rfl (Or.inl rfl) pe_int)
      (pss_cons (ps_set (i := 6) sc__pieces.nd rfl (Or.inl rfl) pe_int)
      (pss_cons (ps_for PassesOwn.never rfl (pi_zip (by rfl) T.zip (pa_cons (pv 2) (pa_cons (pe_slice (r := rSlL K) sl_list (pv 2) (po_some pe_int) po_none) pa_nil))) (pg_tup rfl (pgs_cons (pg_name (i := 7) sc__pieces.nd rfl (Or.inl rfl)) (pgs_cons (pg_name (i := 8) sc__pieces.nd rfl (Or.inl rfl)) pgs_nil)))
      (pss_cons (ps_set (i := 5) sc__pieces.nd rfl (Or.inl rfl) (pe_call (ok__first_ending_behind_L T) (hr.mono (by decide)) rfl T.g_first_ending_behind T.k_first_ending_behind T.b_first_ending_behind .nil pass0 (pa_cons (pv 0) (pa_cons (pv 5) (pa_cons (pv 7) pa_nil)))))
      (pss_cons (ps_set (i := 6) sc__pieces.nd rfl (Or.inl rfl) (pe_call (ok__first_ending_behind_L T) (hr.mono (by decide)) rfl T.g_first_ending_behind T.k_first_ending_behind T.b_first_ending_behind .nil pass0 (pa_cons (pv 1) (pa_cons (pv 6) (pa_cons (pv 7) pa_nil)))))
      (pss_one (ps_expr (pe_bm PySem.F.plainAttrs_list PySem.F.slot_list_append PySem.F.type_list_append mt_append (pv 4) (pa_cons (pe_tup (pa_cons (pv 7) (pa_cons (pv 8) (pa_cons (pe_call (ok__row_from_L T) (hr.mono (by decide)) rfl T.g_row_from T.k_row_from T.b_row_from .nil pass0 (pa_cons (pv 0) (pa_cons (pv 5) (pa_cons (pv 7) pa_nil)))) (pa_cons (pe_call (ok__row_from_L T) (hr.mono (by decide)) rfl T.g_row_from T.k_row_from T.b_row_from .nil pass0 (pa_cons (pv 1) (pa_cons (pv 6) (pa_cons (pv 7) pa_nil)))) pa_nil))))) pa_nil)))))))
      (pss_one (ps_ret (pv 4)))))))), ?_⟩
    have lxa : xa.length = Aa.length := by rw [dpall_len hXa, List.length_map]
    have lxb : xb.length = Bb.length := by rw [dpall_len hXb, List.length_map]
    have atA : ∀ (i : Nat) (v : V), xa[i]? = some v → ∃ pr rest q, Aa[i]? = some q ∧ v = .ref pr ∧ SqT K U pr (.int (lo q) :: .int (hi q) :: rest) := row_at hD hXa
    have atB : ∀ (i : Nat) (v : V), xb[i]? = some v → ∃ pr rest q, Bb[i]? = some q ∧ v = .ref pr ∧ SqT K U pr (.int (lo q) :: .int (hi q) :: rest) := row_at hD hXb
    refine ⟨fun σ' H' => ∃ (pe : Addr) (es : List Int), σ' = [some (.ref pa), some (.ref pb), some (.ref pe), none, none, none, none, none, none] ∧ Same H H' ∧ H' pe = some (.lst (es.map V.int)) ∧ es.length < 64 ∧ es.Pairwise (· < ·) ∧ ∀ k, k ∈ es ↔ k ∈ edgeL lo hi Aa Bb, ?_, ?_⟩
    · refine ⟨_, rfl, pa, rfl, ⟨_, sU.seq hSa⟩, fun D1 hD1 => ?_⟩
      refine lc_dp (walk_list (K := K) (a := pa) (xs := xa)) (K := K) (V0 := H) (H0 := H) (fun i => (Aa[i]?).map fun q => PyData.int (lo q)) _ rfl (Same.refl _) hD1 (by omega) (fun H' s => s.seq (sU.seq hSa)) (fun i x H H' y => y.1) ?_ ?_
      · rintro j v U2 H2 hj xx ⟨_, hv⟩ Qy Qn hy _
        obtain ⟨pr, rest, qq, hq, rfl, hpr⟩ := atA j v hv
        exact ⟨rfl, _, rfl, pr, _, _, _, rfl, rfl, xx.hh.sqt (sU.sqt hpr), atI_nat (j := 0) rfl, hy _ _ _ _ (by rw [hq]; rfl) (Ext.refl xx.vh) (.int _)⟩
      rintro U1 H1 xs1 x1 d1 l1 _
      rw [lxa, fm_map] at l1
      have e1 : xs1 = (Aa.map lo).map V.int := dp_intsV (K := K) (H := U1) (by rw [List.map_map]; exact l1)
      subst e1
      have g1 := x1.vh _ _ d1
      have t1 := sU.trans x1.hh
      refine ⟨_, rfl, pa, rfl, ⟨_, t1.seq hSa⟩, fun D2 hD2 => ?_⟩
      refine lc_dp (walk_list (K := K) (a := pa) (xs := xa)) (K := K) (V0 := H1) (H0 := H1) (fun i => (Aa[i]?).map fun q => PyData.int (hi q)) _ rfl (Same.refl _) hD2 (by omega) (fun H' s => s.seq (t1.seq hSa)) (fun i x H H' y => y.1) ?_ ?_
      · rintro j v U2 H2 hj xx ⟨_, hv⟩ Qy Qn hy _
        obtain ⟨pr, rest, qq, hq, rfl, hpr⟩ := atA j v hv
        exact ⟨rfl, _, rfl, pr, _, _, _, rfl, rfl, xx.hh.sqt (t1.sqt hpr), atI_nat (j := 1) rfl, hy _ _ _ _ (by rw [hq]; rfl) (Ext.refl xx.vh) (.int _)⟩
      rintro U2 H2 xs2 x2 d2 l2 _
      rw [lxa, fm_map] at l2
      have e2 : xs2 = (Aa.map hi).map V.int := dp_intsV (K := K) (H := U2) (by rw [List.map_map]; exact l2)
      subst e2
      have g2 := x2.vh _ _ d2
      refine ⟨D1, D2, _, _, rfl, rfl, x2.hh _ _ g1, g2, len_line (by simp; omega), fun p3 hp3 => ?_⟩
      have g3 : (upd H2 p3 (.lst ((Aa.map lo).map V.int ++ (Aa.map hi).map V.int))) p3 = _ := upd_same
      have t3 := (t1.trans x2.hh).trans (same_upd (o := .lst ((Aa.map lo).map V.int ++ (Aa.map hi).map V.int)) hp3)
      have u3 := (x1.hh.trans x2.hh).trans (same_upd (o := .lst ((Aa.map lo).map V.int ++ (Aa.map hi).map V.int)) hp3)
      generalize upd H2 p3 (.lst ((Aa.map lo).map V.int ++ (Aa.map hi).map V.int)) = H3 at g3 t3 u3 ⊢
      refine ⟨_, rfl, pb, rfl, ⟨_, t3.seq hSb⟩, fun D4 hD4 => ?_⟩
      refine lc_dp (walk_list (K := K) (a := pb) (xs := xb)) (K := K) (V0 := H3) (H0 := H3) (fun i => (Bb[i]?).map fun q => PyData.int (lo q)) _ rfl (Same.refl _) hD4 (by omega) (fun H' s => s.seq (t3.seq hSb)) (fun i x H H' y => y.1) ?_ ?_
      · rintro j v U2 H2 hj xx ⟨_, hv⟩ Qy Qn hy _
        obtain ⟨pr, rest, qq, hq, rfl, hpr⟩ := atB j v hv
        exact ⟨rfl, _, rfl, pr, _, _, _, rfl, rfl, xx.hh.sqt (t3.sqt hpr), atI_nat (j := 0) rfl, hy _ _ _ _ (by rw [hq]; rfl) (Ext.refl xx.vh) (.int _)⟩
      rintro U4 H4 xs4 x4 d4 l4 _
      rw [lxb, fm_map] at l4
      have e4 : xs4 = (Bb.map lo).map V.int := dp_intsV (K := K) (H := U4) (by rw [List.map_map]; exact l4)
      subst e4
      have g4 := x4.vh _ _ d4
      refine ⟨p3, D4, _, _, rfl, rfl, x4.hh _ _ g3, g4, len_line (by simp; omega), fun p5 hp5 => ?_⟩
      have g5 : (upd H4 p5 (.lst (((Aa.map lo).map V.int ++ (Aa.map hi).map V.int) ++ (Bb.map lo).map V.int))) p5 = _ := upd_same
      have t5 := (t3.trans x4.hh).trans (same_upd (o := .lst (((Aa.map lo).map V.int ++ (Aa.map hi).map V.int) ++ (Bb.map lo).map V.int)) hp5)
      have u5 := (u3.trans x4.hh).trans (same_upd (o := .lst (((Aa.map lo).map V.int ++ (Aa.map hi).map V.int) ++ (Bb.map lo).map V.int)) hp5)
      generalize upd H4 p5 (.lst (((Aa.map lo).map V.int ++ (Aa.map hi).map V.int) ++ (Bb.map lo).map V.int)) = H5 at g5 t5 u5 ⊢
      refine ⟨_, rfl, pb, rfl, ⟨_, t5.seq hSb⟩, fun D6 hD6 => ?_⟩
      refine lc_dp (walk_list (K := K) (a := pb) (xs := xb)) (K := K) (V0 := H5) (H0 := H5) (fun i => (Bb[i]?).map fun q => PyData.int (hi q)) _ rfl (Same.refl _) hD6 (by omega) (fun H' s => s.seq (t5.seq hSb)) (fun i x H H' y => y.1) ?_ ?_
      · rintro j v U2 H2 hj xx ⟨_, hv⟩ Qy Qn hy _
        obtain ⟨pr, rest, qq, hq, rfl, hpr⟩ := atB j v hv
        exact ⟨rfl, _, rfl, pr, _, _, _, rfl, rfl, xx.hh.sqt (t5.sqt hpr), atI_nat (j := 1) rfl, hy _ _ _ _ (by rw [hq]; rfl) (Ext.refl xx.vh) (.int _)⟩
      rintro U6 H6 xs6 x6 d6 l6 _
      rw [lxb, fm_map] at l6
      have e6 : xs6 = (Bb.map hi).map V.int := dp_intsV (K := K) (H := U6) (by rw [List.map_map]; exact l6)
      subst e6
      have g6 := x6.vh _ _ d6
      refine ⟨p5, D6, _, _, rfl, rfl, x6.hh _ _ g5, g6, len_line (by simp; omega), fun p7 hp7 => ?_⟩
      have ee : (((Aa.map lo).map V.int ++ (Aa.map hi).map V.int) ++ (Bb.map lo).map V.int) ++ (Bb.map hi).map V.int = (edgeL lo hi Aa Bb).map V.int := by unfold edgeL; simp only [List.map_append]
      have el : (edgeL lo hi Aa Bb).length < 1800 := by unfold edgeL; simp only [List.length_append, List.length_map]; omega
      rw [ee]
      refine ⟨p7, edgeL lo hi Aa Bb, rfl, SqL.of upd_same, by unfold scanBound; omega, fun ps c hps hc hc2 => ?_⟩
      have hc3 := hc2 e0 he0
      refine ⟨ps, _, c, rfl, upd_same, by omega, fun es p8 hs hm hl hp8 => ?_⟩
      refine ⟨p8, es, rfl, ?_, upd_same, by omega, hs, fun k => by rw [hm k, decide_eq_true_eq]⟩
      exact (((u5.trans x6.hh).trans (same_upd hp7)).trans (same_upd hps)).trans (same_upd hp8)
    rintro σ' H1 ⟨pe, es, rfl, s1, he, hel, hep, hem⟩
    refine ⟨len_line (by show 0 ≤ 100000; decide), fun pp hpp => ?_⟩
    have sU1 := sU.trans s1
    have inv0 := LcInv.start (K := K) sU1 hpp
    have he2 := same_upd (o := .lst []) hpp _ _ he
    have s2 : Same H1 (upd H1 pp (.lst [])) := same_upd hpp
    generalize hH2 : upd H1 pp (.lst []) = H2 at inv0 he2 s2 ⊢
    refine ⟨_, rfl, _, rfl, _, rfl, pe, _, rfl, SqL.of he2, fun p6 hp6 => ?_⟩
    rw [cut_tail] at *
    have hsl : (segs es).length = min (es.map V.int).length (es.map V.int).tail.length := by rw [segs_len]; simp
    have he3 := same_upd (o := .lst (es.map V.int).tail) hp6 _ _ he2
    have h63 : (upd H2 p6 (.lst (es.map V.int).tail)) p6 = _ := upd_same
    have inv3 : LcInv K U H1 pp [] (upd H2 p6 (.lst (es.map V.int).tail)) := by
      obtain ⟨V1, xs, x, f1, f2, f3⟩ := inv0.ex
      have sn := same_upd (o := .lst (es.map V.int).tail) hp6
      exact ⟨V1, xs, ⟨x.vv, x.vh.trans sn, x.hh.trans sn, x.nw⟩, f1, sn _ _ f2, f3⟩
    have npp : H1 pp = none := hpp
    have npe : pe ≠ pp := fun z => by rw [z, npp] at he; cases he
    have np6 : p6 ≠ pp := (ne_of_none (by rw [← hH2]; exact upd_same : H2 pp = some (.lst [])) hp6).symm
    generalize upd H2 p6 (.lst (es.map V.int).tail) = H3 at he3 h63 inv3 ⊢
    have keep : ∀ H' acc, LcInv K U H1 pp acc H' → Same H1 H' := fun H' acc i => by obtain ⟨_, _, x, _⟩ := i.ex; exact x.hh
    refine ⟨pe, p6, _, _, rfl, SqL.of he3, SqL.of h63, for_it (walk_zip (K := K) (a := pe) (b := p6) (n := (segs es).length) hsl)
      (fun i σ H' => ∃ (ia ib : Nat) (v7 v8 : Option V), σ = [some (.ref pa), some (.ref pb), some (.ref pe), none, some (.ref pp), some (.int (ia : Int)), some (.int (ib : Int)), v7, v8] ∧ LcInv K U H1 pp (((segs es).take i).map (pieceD lo hi D Aa Bb)) H' ∧ H' pe = some (.lst (es.map V.int)) ∧ H' p6 = some (.lst (es.map V.int).tail) ∧
        ia ≤ Aa.length ∧ ib ≤ Bb.length ∧ (∀ (j : Nat) (q : r), j < ia → Aa[j]? = some q → ∀ (k : Nat) (t : Int × Int), i ≤ k → (segs es)[k]? = some t → hi q ≤ t.1) ∧ (∀ (j : Nat) (q : r), j < ib → Bb[j]? = some q → ∀ (k : Nat) (t : Int × Int), i ≤ k → (segs es)[k]? = some t → hi q ≤ t.1))
      ⟨0, 0, none, none, rfl, inv3, he3, h63, Nat.zero_le _, Nat.zero_le _, fun j q hj => absurd hj (Nat.not_lt_zero _), fun j q hj => absurd hj (Nat.not_lt_zero _)⟩ (fun i σ H' _ ⟨_, _, _, _, _, _, e1, e2, _⟩ => ⟨SqL.of e1, SqL.of e2⟩) ?_ ?_⟩
    · rintro i x σ H4 H5 hin ⟨ia, ib, v7, v8, rfl, inv4, he4, h64, la, lb, ba, bb⟩ ⟨T2, y1, y2, rfl, hT, rfl, hy1, hy2⟩
      obtain ⟨bg, en, rfl, rfl, hsg⟩ := segs_at hy1 hy2
      obtain ⟨V4, xs4, x4, f1, f2, f3⟩ := inv4.ex
      have sT : Same H4 (upd H4 T2 (.tup [.int bg, .int en])) := same_upd hT
      have x5 : Ext V4 H4 V4 (upd H4 T2 (.tup [.int bg, .int en])) := Ext.skip x4.vh hT
      have e5 : (upd H4 T2 (.tup [.int bg, .int en])) T2 = _ := upd_same
      have sU5 : Same U (upd H4 T2 (.tup [.int bg, .int en])) := x4.vv.trans x5.vh
      generalize upd H4 T2 (.tup [.int bg, .int en]) = H5 at sT x5 e5 sU5 ⊢
      refine ⟨T2, _, rfl, SqT.of e5, rfl, _, _, rfl, _, _, rfl, rfl, ?_⟩
      refine ⟨_, rfl, _, rfl, _, rfl, r, lo, hi, D, Aa, pa, xa, ia, bg, rfl, hD, sU5.seq hSa, dpall_same sU5 _ _ hXa, la, fun j q hj hq => ba j q hj hq i _ (Nat.le_refl _) hsg, fun ia' la' ba1 ba2 => ?_⟩
      refine ⟨_, rfl, _, rfl, _, rfl, r, lo, hi, D, Bb, pb, xb, ib, bg, rfl, hD, sU5.seq hSb, dpall_same sU5 _ _ hXb, lb, fun j q hj hq => bb j q hj hq i _ (Nat.le_refl _) hsg, fun ib' lb' bb1 bb2 => ?_⟩
      have ra := rowAt_idx Ra ba1 ba2
      have rb := rowAt_idx Rb bb1 bb2
      have sV : Same U V4 := x4.vv
      refine ⟨_, rfl, .inl ⟨rfl, _, SqL.of (x5.hh _ _ f2)⟩, _, rfl, _, rfl, _, rfl, _, rfl, _, rfl, r, lo, hi, D, Aa, pa, xa, ia', bg, V4, rfl, hD, x5.vh, sV.seq hSa, dpall_same sV _ _ hXa, fun va da => ?_⟩
      refine ⟨_, rfl, _, rfl, _, rfl, r, lo, hi, D, Bb, pb, xb, ib', bg, V4, rfl, hD, x5.vh, sV.seq hSb, dpall_same sV _ _ hXb, fun vb db => ?_⟩
      rw [← ra] at da
      rw [← rb] at db
      refine ⟨len_line (by show 4 ≤ 100000; decide), fun pt hpt => ?_⟩
      have x6 := x5.trans (Ext.new (o := .tup [.int bg, .int en, va, vb]) x5.vh hpt)
      have sq := same_upd (o := .tup [.int bg, .int en, va, vb]) (none_of_same x5.vh hpt)
      have dt : Dp K (upd V4 pt (.tup [.int bg, .int en, va, vb])) (.ref pt) (pieceD lo hi D Aa Bb (bg, en)) := .tup (SqT.of upd_same) (.cons (.int _) (.cons (.int _) (.cons (da.to sq) (.cons (db.to sq) .nil))))
      have hl : (((segs es).take i).map (pieceD lo hi D Aa Bb)).length < 100000 := by
        rw [List.length_map, List.length_take]
        have := (List.getElem?_eq_some_iff.mp hsg).1
        rw [segs_len] at this; omega
      obtain ⟨acc', j1, j2, j3⟩ := LcInv.push npp x4 f1 f2 f3 x6 dt hl
      refine ⟨pp, _, _, rfl, rfl, j1, j2, ?_⟩
      have et : ((segs es).take (i + 1)).map (pieceD lo hi D Aa Bb) = ((segs es).take i).map (pieceD lo hi D Aa Bb) ++ [pieceD lo hi D Aa Bb (bg, en)] := by
        obtain ⟨hl', e'⟩ := List.getElem?_eq_some_iff.mp hsg
        rw [List.take_succ_eq_append_getElem hl', List.map_append, e']; rfl
      refine ⟨ia', ib', _, _, rfl, by rw [et]; exact j3, ?_, ?_, la', lb', fun j q hj hq k t hk ht => ?_, fun j q hj hq k t hk ht => ?_⟩
      · rw [upd_ne npe]; exact x6.hh _ _ he4
      · rw [upd_ne np6]; exact x6.hh _ _ h64
      · exact Int.le_trans (ba1 j q hj hq) (segs_asc hep (i := i) (j := k) (by omega) hsg ht)
      · exact Int.le_trans (bb1 j q hj hq) (segs_asc hep (i := i) (j := k) (by omega) hsg ht)
    · rintro σ H4 ⟨ia, ib, v7, v8, rfl, inv4, _⟩
      rw [List.take_length] at inv4
      obtain ⟨U5, xs5, x5, k1, k2, k3⟩ := inv4.done npp
      exact ⟨_, rfl, q _ _ _ es ⟨x5.vv, x5.vh, s1.trans x5.hh, fun a h => by
        rcases x5.nw a h with z | z
        · exact .inl z
        · exact .inr (s1.free z)⟩ hel hep hem k3⟩
def sp__first_ending_behind_T (K : PySem.W.Frag) : Sp := fun vs H Q _ => ∃ (r : Type) (lo hi : r → Int) (D : r → PyData) (rows : List r) (p : Addr) (xs : List V) (i : Nat) (pl : Int), vs = [.ref p, .int (i : Int), .int pl] ∧ RowOf K lo hi D ∧ SqT K H p xs ∧ DpAll K H xs (rows.map D) ∧ i ≤ rows.length ∧ (∀ (j : Nat) (q : r), j < i → rows[j]? = some q → hi q ≤ pl) ∧
  ∀ i' : Nat, i' ≤ rows.length → (∀ (j : Nat) (q : r), j < i' → rows[j]? = some q → hi q ≤ pl) → (∀ q, rows[i']? = some q → pl < hi q) → Q (.int (i' : Int)) H
theorem ok__first_ending_behind_T (T : Txt K mg A) : FnOk P w K mg base CX0 1 A.f_first_ending_behind A.d_first_ending_behind ["rows", "at", "place"] (sp__first_ending_behind_T K) := by
  refine T.F_first_ending_behind.ok sc__first_ending_behind (fun vs H Q E h => ?_) (fun cdv Ar outer s H vs Q E hr h => ?_)
  · obtain ⟨_, _, _, _, _, _, _, _, _, rfl, _⟩ := h
    rfl
  · obtain ⟨r, lo, hi, D, rows, p, xs, i, pl, rfl, hD, hS, hX, hi0, hb, q⟩ := h
    refine ⟨_, (pss_cons (ps_while PassesOwn.never (PW.pt (pw_and (pt_cmpR op_lt (pv 1) (pe_callB call_len_seq (by rfl) T.len PySem.boot_len (pa_cons (pv 0) pa_nil)) (nomark _)) (pw_and1 (pt_cmpR op_le (pe_ix (r := rIxT K) ix_tup (pe_ix (r := rIxT K) ix_tup (pv 0) (pv 1) (fun _ _ => rfl)) pe_int (fun _ _ => rfl)) (pv 2) (nomark _)))))
      (pss_one (ps_aug (i := 1) sc__first_ending_behind.nd rfl (Or.inl rfl) pe_int ip_add)))
      (pss_one (ps_ret (pv 1)))), ?_⟩
    have hx : xs.length = rows.length := by rw [dpall_len hX, List.length_map]
    refine ⟨fun m σ H' => H' = H ∧ ∃ k : Nat, σ = [some (.ref p), some (.int (k : Int)), some (.int pl)] ∧ k ≤ rows.length ∧ m = rows.length - k ∧ ∀ (j : Nat) (q : r), j < k → rows[j]? = some q → hi q ≤ pl, ⟨_, rfl, i, rfl, hi0, rfl, hb⟩, ?_⟩
    rintro m σ H' ⟨rfl, k, rfl, hk, rfl, hkb⟩
    have fin : (∀ q, rows[k]? = some q → pl < hi q) → tRet (tVar 1) { nx := fun x H' => Q V.non H', rt := Q } [some (.ref p), some (.int (k : Int)), some (.int pl)] H' := fun h => ⟨_, rfl, q k hk hkb h⟩
    refine ⟨_, rfl, _, rfl, p, _, rfl, .inr hS, _, _, rfl, rfl, _, rfl, iteP (fun h => ?_) (fun h => ?_)⟩
    · have hk2 : k < rows.length := by rw [← hx]; omega
      have hr' := List.getElem?_eq_getElem hk2
      obtain ⟨v, hv, dv⟩ := dpall_get' hX (i := k) (d := D rows[k]) (by rw [List.getElem?_map, hr']; rfl)
      obtain ⟨pr, rest, rfl, hpr⟩ := hD _ _ _ dv
      generalize rows[k] = row at hr' dv hpr
      refine ⟨_, rfl, _, rfl, p, _, _, _, rfl, rfl, hS, atI_nat hv, pr, _, _, _, rfl, rfl, hpr, atI_nat (j := 1) rfl, _, rfl, _, _, rfl, rfl, _, rfl, iteP (fun h2 => ?_) (fun h2 => ?_)⟩
      · refine ⟨fun σ' H2 => H2 = H' ∧ σ' = [some (.ref p), some (.int ((k + 1 : Nat) : Int)), some (.int pl)], ?_, ?_⟩
        · rintro σ' H2 ⟨rfl, rfl⟩
          refine ⟨rows.length - (k + 1), by omega, rfl, k + 1, rfl, hk2, rfl, fun j q hj hq => ?_⟩
          by_cases e : j = k
          · subst e; rw [hr'] at hq; cases hq; exact h2
          · exact hkb j q (by omega) hq
        · exact ⟨_, rfl, _, _, rfl, rfl, rfl, by rw [Int.natCast_add]; rfl⟩
      · exact fin fun q hq => by rw [hr'] at hq; cases hq; omega
    · exact fin fun q hq => by
        have := (List.getElem?_eq_some_iff.mp hq).1
        rw [hx] at h; omega
def sp__row_from_T (K : PySem.W.Frag) : Sp := fun vs H Q _ => ∃ (r : Type) (lo hi : r → Int) (D : r → PyData) (rows : List r) (p : Addr) (xs : List V) (i : Nat) (pl : Int) (U : Hp), vs = [.ref p, .int (i : Int), .int pl] ∧ RowOf K lo hi D ∧ Same U H ∧ SqT K U p xs ∧ DpAll K U xs (rows.map D) ∧
  ∀ v, Dp K U v (oD D ((rows[i]?).filter fun q => decide (lo q ≤ pl))) → Q v H
theorem ok__row_from_T (T : Txt K mg A) : FnOk P w K mg base CX0 1 A.f_row_from A.d_row_from ["rows", "at", "place"] (sp__row_from_T K) := by
  refine T.F_row_from.ok sc__row_from (fun vs H Q E h => ?_) (fun cdv Ar outer s H vs Q E hr h => ?_)
  · obtain ⟨_, _, _, _, _, _, _, _, _, _, rfl, _⟩ := h
    rfl
  · obtain ⟨r, lo, hi, D, rows, p, xs, i, pl, U, rfl, hD, sU, hS0, hX, q⟩ := h
    have hS := sU.sqt hS0
    refine ⟨_, (pss_one (ps_ret (pe_ifExp (PW.pt (pw_and (pt_cmpR op_lt (pv 1) (pe_callB call_len_seq (by rfl) T.len PySem.boot_len (pa_cons (pv 0) pa_nil)) (nomark _)) (pw_and1 (pt_cmpR op_le (pe_ix (r := rIxT K) ix_tup (pe_ix (r := rIxT K) ix_tup (pv 0) (pv 1) (fun _ _ => rfl)) pe_int (fun _ _ => rfl)) (pv 2) (nomark _))))) (pe_ix (r := rIxT K) ix_tup (pv 0) (pv 1) (fun _ _ => rfl)) pe_non))), ?_⟩
    have hx : xs.length = rows.length := by rw [dpall_len hX, List.length_map]
    refine ⟨_, rfl, _, rfl, p, _, rfl, .inr hS, _, _, rfl, rfl, _, rfl, iteP (fun h => ?_) (fun h => ?_)⟩
    · have hk2 : i < rows.length := by rw [← hx]; omega
      have hr' := List.getElem?_eq_getElem hk2
      obtain ⟨v, hv, dv⟩ := dpall_get' hX (i := i) (d := D rows[i]) (by rw [List.getElem?_map, hr']; rfl)
      obtain ⟨pr, rest, rfl, hpr0⟩ := hD _ _ _ dv
      have hpr := sU.sqt hpr0
      generalize rows[i] = row at hr' dv hpr0 hpr
      rw [hr'] at q
      refine ⟨_, rfl, _, rfl, p, _, _, _, rfl, rfl, hS, atI_nat hv, pr, _, _, _, rfl, rfl, hpr, atI_nat (j := 0) rfl, _, rfl, _, _, rfl, rfl, _, rfl, iteP (fun h2 => ?_) (fun h2 => ?_)⟩
      · refine ⟨_, rfl, _, rfl, p, _, _, _, rfl, rfl, hS, atI_nat hv, q _ ?_⟩
        rw [Option.filter_some, decide_eq_true h2]; exact dv
      · refine q _ ?_
        rw [Option.filter_some, decide_eq_false h2]; exact .non
    · refine q _ ?_
      rw [List.getElem?_eq_none (by rw [hx] at h; omega)]
      exact .non
def sp__pieces_T (K : PySem.W.Frag) : Sp := fun vs H Q _ => ∃ (r : Type) (lo hi : r → Int) (D : r → PyData) (Aa Bb : List r) (pa pb : Addr) (xa xb : List V) (U : Hp), vs = [.ref pa, .ref pb] ∧ RowOf K lo hi D ∧ Same U H ∧ SqT K U pa xa ∧ DpAll K U xa (Aa.map D) ∧ SqT K U pb xb ∧ DpAll K U xb (Bb.map D) ∧
  Rows lo hi Aa ∧ Rows lo hi Bb ∧ Aa.length + Bb.length < 900 ∧ (∃ e0 : List Int, (∀ k, k ∈ edgeL lo hi Aa Bb → k ∈ e0) ∧ e0.length < 64) ∧
  ∀ v U' H' es, Ext U H U' H' → es.length < 64 → es.Pairwise (· < ·) → (∀ k, k ∈ es ↔ k ∈ edgeL lo hi Aa Bb) → Dp K U' v (.list ((segs es).map (pieceD lo hi D Aa Bb))) → Q v H'
theorem ok__pieces_T (T : Txt K mg A) : FnOk P w K mg base CX0 2 A.f_pieces A.d_pieces ["a", "b"] (sp__pieces_T K) := by
  refine T.F_pieces.ok sc__pieces (fun vs H Q E h => ?_) (fun cdv Ar outer s H vs Q E hr h => ?_)
  · obtain ⟨_, _, _, _, _, _, _, _, _, _, _, rfl, _⟩ := h
    rfl
  · obtain ⟨r, lo, hi, D, Aa, Bb, pa, pb, xa, xb, U, rfl, hD, sU, hSa, hXa, hSb, hXb, Ra, Rb, hln, ⟨e0, he0, hl0⟩, q⟩ := h
    refine ⟨_, (C8.pss_cut (ps_set (i := 2) sc__pieces.nd rfl (Or.inl rfl) (pe_callB (cr_sortedSet rfl) (by rfl) T.sorted (by decide +kernel) (pa_cons (pe_callTy (cr_setI rfl) (by rfl) T.set (by decide +kernel) (pa_cons (pe_op op_cat (pe_op op_cat (pe_op op_cat (pe_lc (own := [("row", 3)]) (g := (gName 3)) (tt := tYes) rfl sc__pieces.nd (pi_tup (pv 0)) (blkOk_by (own := [("row", 3)]) (N := ["a", "b", "edges", "row", "pieces", "at_a", "at_b", "begin", "end"]) (sc := defScope s__pieces) (by decide +kernel)) (fun _ _ _ _ _ => (pg_name (i := 3) sc__pieces.nd rfl (Or.inl rfl))) (fun _ _ _ _ _ => pts_nil) (fun _ _ _ _ _ => by exact (pe_ix (r := rIxT K) ix_tup (pv 3) pe_int (fun _ _ => rfl)))) (pe_lc (own := [("row", 3)]) (g := (gName 3)) (tt := tYes) rfl sc__pieces.nd (pi_tup (pv 0)) (blkOk_by (own := [("row", 3)]) (N := ["a", "b", "edges", "row", "pieces", "at_a", "at_b", "begin", "end"]) (sc := defScope s__pieces) (by decide +kernel)) (fun _ _ _ _ _ => (pg_name (i := 3) sc__pieces.nd rfl (Or.inl rfl))) (fun _ _ _ _ _ => pts_nil) (fun _ _ _ _ _ => by exact (pe_ix (r := rIxT K) ix_tup (pv 3) pe_int (fun _ _ => rfl))))) (pe_lc (own := [("row", 3)]) (g := (gName 3)) (tt := tYes) rfl sc__pieces.nd (pi_tup (pv 1)) (blkOk_by (own := [("row", 3)]) (N := ["a", "b", "edges", "row", "pieces", "at_a", "at_b", "begin", "end"]) (sc := defScope s__pieces) (by decide +kernel)) (fun _ _ _ _ _ => (pg_name (i := 3) sc__pieces.nd rfl (Or.inl rfl))) (fun _ _ _ _ _ => pts_nil) (fun _ _ _ _ _ => by exact (pe_ix (r := rIxT K) ix_tup (pv 3) pe_int (fun _ _ => rfl))))) (pe_lc (own := [("row", 3)]) (g := (gName 3)) (tt := tYes) rfl sc__pieces.nd (pi_tup (pv 1)) (blkOk_by (own := [("row", 3)]) (N := ["a", "b", "edges", "row", "pieces", "at_a", "at_b", "begin", "end"]) (sc := defScope s__pieces) (by decide +kernel)) (fun _ _ _ _ _ => (pg_name (i := 3) sc__pieces.nd rfl (Or.inl rfl))) (fun _ _ _ _ _ => pts_nil) (fun _ _ _ _ _ => by exact (pe_ix (r := rIxT K) ix_tup (pv 3) pe_int (fun _ _ => rfl))))) pa_nil)) pa_nil)))
      (pss_cons (ps_set (i := 4) sc__pieces.nd rfl (Or.inl rfl) (pe_lst pa_nil))
      (pss_cons (ps_set (i := 5) sc__pieces.nd rfl (Or.inl rfl) pe_int)
      (pss_cons (ps_set (i := 6) sc__pieces.nd rfl (Or.inl rfl) pe_int)
      (pss_cons (ps_for PassesOwn.never rfl (pi_zip (by rfl) T.zip (pa_cons (pv 2) (pa_cons (pe_slice (r := rSlL K) sl_list (pv 2) (po_some pe_int) po_none) pa_nil))) (pg_tup rfl (pgs_cons (pg_name (i := 7) sc__pieces.nd rfl (Or.inl rfl)) (pgs_cons (pg_name (i := 8) sc__pieces.nd rfl (Or.inl rfl)) pgs_nil)))
      (pss_cons (ps_set (i := 5) sc__pieces.nd rfl (Or.inl rfl) (pe_call (ok__first_ending_behind_T T) (hr.mono (by decide)) rfl T.g_first_ending_behind T.k_first_ending_behind T.b_first_ending_behind .nil pass0 (pa_cons (pv 0) (pa_cons (pv 5) (pa_cons (pv 7) pa_nil)))))
      (pss_cons (ps_set (i := 6) sc__pieces.nd rfl (Or.inl rfl) (pe_call (ok__first_ending_behind_T T) (hr.mono (by decide)) rfl T.g_first_ending_behind T.k_first_ending_behind T.b_first_ending_behind .nil pass0 (pa_cons (pv 1) (pa_cons (pv 6) (pa_cons (pv 7) pa_nil)))))
      (pss_one (ps_expr (pe_bm PySem.F.plainAttrs_list PySem.F.slot_list_append PySem.F.type_list_append mt_append (pv 4) (pa_cons (pe_tup (pa_cons (pv 7) (pa_cons (pv 8) (pa_cons (pe_call (ok__row_from_T T) (hr.mono (by decide)) rfl T.g_row_from T.k_row_from T.b_row_from .nil pass0 (pa_cons (pv 0) (pa_cons (pv 5) (pa_cons (pv 7) pa_nil)))) (pa_cons (pe_call (ok__row_from_T T) (hr.mono (by decide)) rfl T.g_row_from T.k_row_from T.b_row_from .nil pass0 (pa_cons (pv 1) (pa_cons (pv 6) (pa_cons (pv 7) pa_nil)))) pa_nil))))) pa_nil)))))))
      (pss_one (ps_ret (pv 4)))))))), ?_⟩
    have lxa : xa.length = Aa.length := by rw [dpall_len hXa, List.length_map]
    have lxb : xb.length = Bb.length := by rw [dpall_len hXb, List.length_map]
    have atA : ∀ (i : Nat) (v : V), xa[i]? = some v → ∃ pr rest q, Aa[i]? = some q ∧ v = .ref pr ∧ SqT K U pr (.int (lo q) :: .int (hi q) :: rest) := row_at hD hXa
    have atB : ∀ (i : Nat) (v : V), xb[i]? = some v → ∃ pr rest q, Bb[i]? = some q ∧ v = .ref pr ∧ SqT K U pr (.int (lo q) :: .int (hi q) :: rest) := row_at hD hXb
    refine ⟨fun σ' H' => ∃ (pe : Addr) (es : List Int), σ' = [some (.ref pa), some (.ref pb), some (.ref pe), none, none, none, none, none, none] ∧ Same H H' ∧ H' pe = some (.lst (es.map V.int)) ∧ es.length < 64 ∧ es.Pairwise (· < ·) ∧ ∀ k, k ∈ es ↔ k ∈ edgeL lo hi Aa Bb, ?_, ?_⟩
    · refine ⟨_, rfl, pa, rfl, ⟨_, sU.sqt hSa⟩, fun D1 hD1 => ?_⟩
      refine lc_dp (walk_tup (K := K) (a := pa) (xs := xa)) (K := K) (V0 := H) (H0 := H) (fun i => (Aa[i]?).map fun q => PyData.int (lo q)) _ rfl (Same.refl _) hD1 (by omega) (fun H' s => s.sqt (sU.sqt hSa)) (fun i x H H' y => y.1) ?_ ?_
      · rintro j v U2 H2 hj xx ⟨_, hv⟩ Qy Qn hy _
        obtain ⟨pr, rest, qq, hq, rfl, hpr⟩ := atA j v hv
        exact ⟨rfl, _, rfl, pr, _, _, _, rfl, rfl, xx.hh.sqt (sU.sqt hpr), atI_nat (j := 0) rfl, hy _ _ _ _ (by rw [hq]; rfl) (Ext.refl xx.vh) (.int _)⟩
      rintro U1 H1 xs1 x1 d1 l1 _
      rw [lxa, fm_map] at l1
      have e1 : xs1 = (Aa.map lo).map V.int := dp_intsV (K := K) (H := U1) (by rw [List.map_map]; exact l1)
      subst e1
      have g1 := x1.vh _ _ d1
      have t1 := sU.trans x1.hh
      refine ⟨_, rfl, pa, rfl, ⟨_, t1.sqt hSa⟩, fun D2 hD2 => ?_⟩
      refine lc_dp (walk_tup (K := K) (a := pa) (xs := xa)) (K := K) (V0 := H1) (H0 := H1) (fun i => (Aa[i]?).map fun q => PyData.int (hi q)) _ rfl (Same.refl _) hD2 (by omega) (fun H' s => s.sqt (t1.sqt hSa)) (fun i x H H' y => y.1) ?_ ?_
      · rintro j v U2 H2 hj xx ⟨_, hv⟩ Qy Qn hy _
        obtain ⟨pr, rest, qq, hq, rfl, hpr⟩ := atA j v hv
        exact ⟨rfl, _, rfl, pr, _, _, _, rfl, rfl, xx.hh.sqt (t1.sqt hpr), atI_nat (j := 1) rfl, hy _ _ _ _ (by rw [hq]; rfl) (Ext.refl xx.vh) (.int _)⟩
      rintro U2 H2 xs2 x2 d2 l2 _
      rw [lxa, fm_map] at l2
      have e2 : xs2 = (Aa.map hi).map V.int := dp_intsV (K := K) (H := U2) (by rw [List.map_map]; exact l2)
      subst e2
      have g2 := x2.vh _ _ d2
      refine ⟨D1, D2, _, _, rfl, rfl, x2.hh _ _ g1, g2, len_line (by simp; omega), fun p3 hp3 => ?_⟩
      have g3 : (upd H2 p3 (.lst ((Aa.map lo).map V.int ++ (Aa.map hi).map V.int))) p3 = _ := upd_same
      have t3 := (t1.trans x2.hh).trans (same_upd (o := .lst ((Aa.map lo).map V.int ++ (Aa.map hi).map V.int)) hp3)
      have u3 := (x1.hh.trans x2.hh).trans (same_upd (o := .lst ((Aa.map lo).map V.int ++ (Aa.map hi).map V.int)) hp3)
      generalize upd H2 p3 (.lst ((Aa.map lo).map V.int ++ (Aa.map hi).map V.int)) = H3 at g3 t3 u3 ⊢
      refine ⟨_, rfl, pb, rfl, ⟨_, t3.sqt hSb⟩, fun D4 hD4 => ?_⟩
      refine lc_dp (walk_tup (K := K) (a := pb) (xs := xb)) (K := K) (V0 := H3) (H0 := H3) (fun i => (Bb[i]?).map fun q => PyData.int (lo q)) _ rfl (Same.refl _) hD4 (by omega) (fun H' s => s.sqt (t3.sqt hSb)) (fun i x H H' y => y.1) ?_ ?_
      · rintro j v U2 H2 hj xx ⟨_, hv⟩ Qy Qn hy _
        obtain ⟨pr, rest, qq, hq, rfl, hpr⟩ := atB j v hv
        exact ⟨rfl, _, rfl, pr, _, _, _, rfl, rfl, xx.hh.sqt (t3.sqt hpr), atI_nat (j := 0) rfl, hy _ _ _ _ (by rw [hq]; rfl) (Ext.refl xx.vh) (.int _)⟩
      rintro U4 H4 xs4 x4 d4 l4 _
      rw [lxb, fm_map] at l4
      have e4 : xs4 = (Bb.map lo).map V.int := dp_intsV (K := K) (H := U4) (by rw [List.map_map]; exact l4)
      subst e4
      have g4 := x4.vh _ _ d4
      refine ⟨p3, D4, _, _, rfl, rfl, x4.hh _ _ g3, g4, len_line (by simp; omega), fun p5 hp5 => ?_⟩
      have g5 : (upd H4 p5 (.lst (((Aa.map lo).map V.int ++ (Aa.map hi).map V.int) ++ (Bb.map lo).map V.int))) p5 = _ := upd_same
      have t5 := (t3.trans x4.hh).trans (same_upd (o := .lst (((Aa.map lo).map V.int ++ (Aa.map hi).map V.int) ++ (Bb.map lo).map V.int)) hp5)
      have u5 := (u3.trans x4.hh).trans (same_upd (o := .lst (((Aa.map lo).map V.int ++ (Aa.map hi).map V.int) ++ (Bb.map lo).map V.int)) hp5)
      generalize upd H4 p5 (.lst (((Aa.map lo).map V.int ++ (Aa.map hi).map V.int) ++ (Bb.map lo).map V.int)) = H5 at g5 t5 u5 ⊢
      refine ⟨_, rfl, pb, rfl, ⟨_, t5.sqt hSb⟩, fun D6 hD6 => ?_⟩
      refine lc_dp (walk_tup (K := K) (a := pb) (xs := xb)) (K := K) (V0 := H5) (H0 := H5) (fun i => (Bb[i]?).map fun q => PyData.int (hi q)) _ rfl (Same.refl _) hD6 (by omega) (fun H' s => s.sqt (t5.sqt hSb)) (fun i x H H' y => y.1) ?_ ?_
      · rintro j v U2 H2 hj xx ⟨_, hv⟩ Qy Qn hy _
        obtain ⟨pr, rest, qq, hq, rfl, hpr⟩ := atB j v hv
        exact ⟨rfl, _, rfl, pr, _, _, _, rfl, rfl, xx.hh.sqt (t5.sqt hpr), atI_nat (j := 1) rfl, hy _ _ _ _ (by rw [hq]; rfl) (Ext.refl xx.vh) (.int _)⟩
      rintro U6 H6 xs6 x6 d6 l6 _
      rw [lxb, fm_map] at l6
      have e6 : xs6 = (Bb.map hi).map V.int := dp_intsV (K := K) (H := U6) (by rw [List.map_map]; exact l6)
      subst e6
      have g6 := x6.vh _ _ d6
      refine ⟨p5, D6, _, _, rfl, rfl, x6.hh _ _ g5, g6, len_line (by simp; omega), fun p7 hp7 => ?_⟩
      have ee : (((Aa.map lo).map V.int ++ (Aa.map hi).map V.int) ++ (Bb.map lo).map V.int) ++ (Bb.map hi).map V.int = (edgeL lo hi Aa Bb).map V.int := by unfold edgeL; simp only [List.map_append]
      have el : (edgeL lo hi Aa Bb).length < 1800 := by unfold edgeL; simp only [List.length_append, List.length_map]; omega
      rw [ee]
      refine ⟨p7, edgeL lo hi Aa Bb, rfl, SqL.of upd_same, by unfold scanBound; omega, fun ps c hps hc hc2 => ?_⟩
      have hc3 := hc2 e0 he0
      refine ⟨ps, _, c, rfl, upd_same, by omega, fun es p8 hs hm hl hp8 => ?_⟩
      refine ⟨p8, es, rfl, ?_, upd_same, by omega, hs, fun k => by rw [hm k, decide_eq_true_eq]⟩
      exact (((u5.trans x6.hh).trans (same_upd hp7)).trans (same_upd hps)).trans (same_upd hp8)
    rintro σ' H1 ⟨pe, es, rfl, s1, he, hel, hep, hem⟩
    refine ⟨len_line (by show 0 ≤ 100000; decide), fun pp hpp => ?_⟩
    have sU1 := sU.trans s1
    have inv0 := LcInv.start (K := K) sU1 hpp
    have he2 := same_upd (o := .lst []) hpp _ _ he
    have s2 : Same H1 (upd H1 pp (.lst [])) := same_upd hpp
    generalize hH2 : upd H1 pp (.lst []) = H2 at inv0 he2 s2 ⊢
    refine ⟨_, rfl, _, rfl, _, rfl, pe, _, rfl, SqL.of he2, fun p6 hp6 => ?_⟩
    rw [cut_tail] at *
    have hsl : (segs es).length = min (es.map V.int).length (es.map V.int).tail.length := by rw [segs_len]; simp
    have he3 := same_upd (o := .lst (es.map V.int).tail) hp6 _ _ he2
    have h63 : (upd H2 p6 (.lst (es.map V.int).tail)) p6 = _ := upd_same
    have inv3 : LcInv K U H1 pp [] (upd H2 p6 (.lst (es.map V.int).tail)) := by
      obtain ⟨V1, xs, x, f1, f2, f3⟩ := inv0.ex
      have sn := same_upd (o := .lst (es.map V.int).tail) hp6
      exact ⟨V1, xs, ⟨x.vv, x.vh.trans sn, x.hh.trans sn, x.nw⟩, f1, sn _ _ f2, f3⟩
    have npp : H1 pp = none := hpp
    have npe : pe ≠ pp := fun z => by rw [z, npp] at he; cases he
    have np6 : p6 ≠ pp := (ne_of_none (by rw [← hH2]; exact upd_same : H2 pp = some (.lst [])) hp6).symm
    generalize upd H2 p6 (.lst (es.map V.int).tail) = H3 at he3 h63 inv3 ⊢
    have keep : ∀ H' acc, LcInv K U H1 pp acc H' → Same H1 H' := fun H' acc i => by obtain ⟨_, _, x, _⟩ := i.ex; exact x.hh
    refine ⟨pe, p6, _, _, rfl, SqL.of he3, SqL.of h63, for_it (walk_zip (K := K) (a := pe) (b := p6) (n := (segs es).length) hsl)
      (fun i σ H' => ∃ (ia ib : Nat) (v7 v8 : Option V), σ = [some (.ref pa), some (.ref pb), some (.ref pe), none, some (.ref pp), some (.int (ia : Int)), some (.int (ib : Int)), v7, v8] ∧ LcInv K U H1 pp (((segs es).take i).map (pieceD lo hi D Aa Bb)) H' ∧ H' pe = some (.lst (es.map V.int)) ∧ H' p6 = some (.lst (es.map V.int).tail) ∧
        ia ≤ Aa.length ∧ ib ≤ Bb.length ∧ (∀ (j : Nat) (q : r), j < ia → Aa[j]? = some q → ∀ (k : Nat) (t : Int × Int), i ≤ k → (segs es)[k]? = some t → hi q ≤ t.1) ∧ (∀ (j : Nat) (q : r), j < ib → Bb[j]? = some q → ∀ (k : Nat) (t : Int × Int), i ≤ k → (segs es)[k]? = some t → hi q ≤ t.1))
      ⟨0, 0, none, none, rfl, inv3, he3, h63, Nat.zero_le _, Nat.zero_le _, fun j q hj => absurd hj (Nat.not_lt_zero _), fun j q hj => absurd hj (Nat.not_lt_zero _)⟩ (fun i σ H' _ ⟨_, _, _, _, _, _, e1, e2, _⟩ => ⟨SqL.of e1, SqL.of e2⟩) ?_ ?_⟩
    · rintro i x σ H4 H5 hin ⟨ia, ib, v7, v8, rfl, inv4, he4, h64, la, lb, ba, bb⟩ ⟨T2, y1, y2, rfl, hT, rfl, hy1, hy2⟩
      obtain ⟨bg, en, rfl, rfl, hsg⟩ := segs_at hy1 hy2
      obtain ⟨V4, xs4, x4, f1, f2, f3⟩ := inv4.ex
      have sT : Same H4 (upd H4 T2 (.tup [.int bg, .int en])) := same_upd hT
      have x5 : Ext V4 H4 V4 (upd H4 T2 (.tup [.int bg, .int en])) := Ext.skip x4.vh hT
      have e5 : (upd H4 T2 (.tup [.int bg, .int en])) T2 = _ := upd_same
      have sU5 : Same U (upd H4 T2 (.tup [.int bg, .int en])) := x4.vv.trans x5.vh
      generalize upd H4 T2 (.tup [.int bg, .int en]) = H5 at sT x5 e5 sU5 ⊢
      refine ⟨T2, _, rfl, SqT.of e5, rfl, _, _, rfl, _, _, rfl, rfl, ?_⟩
      refine ⟨_, rfl, _, rfl, _, rfl, r, lo, hi, D, Aa, pa, xa, ia, bg, rfl, hD, sU5.sqt hSa, dpall_same sU5 _ _ hXa, la, fun j q hj hq => ba j q hj hq i _ (Nat.le_refl _) hsg, fun ia' la' ba1 ba2 => ?_⟩
      refine ⟨_, rfl, _, rfl, _, rfl, r, lo, hi, D, Bb, pb, xb, ib, bg, rfl, hD, sU5.sqt hSb, dpall_same sU5 _ _ hXb, lb, fun j q hj hq => bb j q hj hq i _ (Nat.le_refl _) hsg, fun ib' lb' bb1 bb2 => ?_⟩
      have ra := rowAt_idx Ra ba1 ba2
      have rb := rowAt_idx Rb bb1 bb2
      have sV : Same U V4 := x4.vv
      refine ⟨_, rfl, .inl ⟨rfl, _, SqL.of (x5.hh _ _ f2)⟩, _, rfl, _, rfl, _, rfl, _, rfl, _, rfl, r, lo, hi, D, Aa, pa, xa, ia', bg, V4, rfl, hD, x5.vh, sV.sqt hSa, dpall_same sV _ _ hXa, fun va da => ?_⟩
      refine ⟨_, rfl, _, rfl, _, rfl, r, lo, hi, D, Bb, pb, xb, ib', bg, V4, rfl, hD, x5.vh, sV.sqt hSb, dpall_same sV _ _ hXb, fun vb db => ?_⟩
      rw [← ra] at da
      rw [← rb] at db
      refine ⟨len_line (by show 4 ≤ 100000; decide), fun pt hpt => ?_⟩
      have x6 := x5.trans (Ext.new (o := .tup [.int bg, .int en, va, vb]) x5.vh hpt)
      have sq := same_upd (o := .tup [.int bg, .int en, va, vb]) (none_of_same x5.vh hpt)
      have dt : Dp K (upd V4 pt (.tup [.int bg, .int en, va, vb])) (.ref pt) (pieceD lo hi D Aa Bb (bg, en)) := .tup (SqT.of upd_same) (.cons (.int _) (.cons (.int _) (.cons (da.to sq) (.cons (db.to sq) .nil))))
      have hl : (((segs es).take i).map (pieceD lo hi D Aa Bb)).length < 100000 := by
        rw [List.length_map, List.length_take]
        have := (List.getElem?_eq_some_iff.mp hsg).1
        rw [segs_len] at this; omega
      obtain ⟨acc', j1, j2, j3⟩ := LcInv.push npp x4 f1 f2 f3 x6 dt hl
      refine ⟨pp, _, _, rfl, rfl, j1, j2, ?_⟩
      have et : ((segs es).take (i + 1)).map (pieceD lo hi D Aa Bb) = ((segs es).take i).map (pieceD lo hi D Aa Bb) ++ [pieceD lo hi D Aa Bb (bg, en)] := by
        obtain ⟨hl', e'⟩ := List.getElem?_eq_some_iff.mp hsg
        rw [List.take_succ_eq_append_getElem hl', List.map_append, e']; rfl
      refine ⟨ia', ib', _, _, rfl, by rw [et]; exact j3, ?_, ?_, la', lb', fun j q hj hq k t hk ht => ?_, fun j q hj hq k t hk ht => ?_⟩
      · rw [upd_ne npe]; exact x6.hh _ _ he4
      · rw [upd_ne np6]; exact x6.hh _ _ h64
      · exact Int.le_trans (ba1 j q hj hq) (segs_asc hep (i := i) (j := k) (by omega) hsg ht)
      · exact Int.le_trans (bb1 j q hj hq) (segs_asc hep (i := i) (j := k) (by omega) hsg ht)
    · rintro σ H4 ⟨ia, ib, v7, v8, rfl, inv4, _⟩
      rw [List.take_length] at inv4
      obtain ⟨U5, xs5, x5, k1, k2, k3⟩ := inv4.done npp
      exact ⟨_, rfl, q _ _ _ es ⟨x5.vv, x5.vh, s1.trans x5.hh, fun a h => by
        rcases x5.nw a h with z | z
        · exact .inl z
        · exact .inr (s1.free z)⟩ hel hep hem k3⟩
/-! ### what is kept; the spans of two bands together -/
def sp_keep (op : Bool → Bool → Bool) (K : PySem.W.Frag) : Sp := fun vs H Q _ => ∃ a b : Bool, vs = [.bl a, .bl b] ∧ Q (.bl (op a b)) H
def KeepAt (A : Adr) (f : Addr) (op : Bool → Bool → Bool) : Prop := (f = A.f_either ∧ op = or) ∨ (f = A.f_first_alone ∧ op = fun a b => a && !b)
theorem KeepAt.ff {A : Adr} {f : Addr} {op : Bool → Bool → Bool} (h : KeepAt A f op) : op false false = false := by
  rcases h with ⟨_, rfl⟩ | ⟨_, rfl⟩ <;> rfl
theorem sc__either : FnScope ["first", "second"] ["first", "second"] (defScope s__either) := ⟨rfl, rfl, rfl, by decide +kernel, rfl, by decide +kernel, by decide +kernel⟩
theorem sc__first_alone : FnScope ["first", "second"] ["first", "second"] (defScope s__first_alone) := ⟨rfl, rfl, rfl, by decide +kernel, rfl, by decide +kernel, by decide +kernel⟩
theorem ok__either (T : Txt K mg A) : FnOk P w K mg base CX0 1 A.f_either A.d_either ["first", "second"] (sp_keep or K) := by
  refine T.F_either.ok sc__either (fun vs H Q E h => ?_) (fun cdv Ar outer s H vs Q E hr h => ?_)
  · obtain ⟨_, _, rfl, _⟩ := h
    rfl
  · obtain ⟨a, b, rfl, q⟩ := h
    refine ⟨_, (pss_one (ps_ret (pe_or (pv 0) (pe_one (pv 1))))), ?_⟩
    cases a <;> walk_at "go" <;> exact q
theorem ok__first_alone (T : Txt K mg A) : FnOk P w K mg base CX0 1 A.f_first_alone A.d_first_alone ["first", "second"] (sp_keep (fun a b => a && !b) K) := by
  refine T.F_first_alone.ok sc__first_alone (fun vs H Q E h => ?_) (fun cdv Ar outer s H vs Q E hr h => ?_)
  · obtain ⟨_, _, rfl, _⟩ := h
    rfl
  · obtain ⟨a, b, rfl, q⟩ := h
    refine ⟨_, (pss_one (ps_ret (pe_and (pv 0) (pe_one (pe_not (pv 1)))))), ?_⟩
    cases a <;> walk_at "go" <;> exact q
theorem keep_ok (T : Txt K mg A) {f : Addr} {op : Bool → Bool → Bool} (h : KeepAt A f op) : ∃ (fd : FuncData) (ps : List Str), FnOk P w K mg base CX0 1 f fd ps (sp_keep op K) ∧ PySem.W.keepIn K (.ref f) = true ∧ Binds K fd ps [] := by
  rcases h with ⟨rfl, rfl⟩ | ⟨rfl, rfl⟩
  · exact ⟨_, _, ok__either T, T.k_either, T.b_either⟩
  · exact ⟨_, _, ok__first_alone T, T.k_first_alone, T.b_first_alone⟩
theorem row_span : RowOf K Prod.fst Prod.snd spanD := fun H v q h => by
  obtain ⟨a, e, h2⟩ := dp_span h
  exact ⟨a, [], e, h2⟩
theorem row_band : RowOf K (fun b : Band => b.1) (fun b => b.2.1) bandD := fun H v q h => by
  obtain ⟨a, p, ss, e, h2, _⟩ := dp_band h
  exact ⟨a, [.ref p], e, h2⟩
def spC (p q : Span) : Bool := decide (p.2 = q.1)
def spJ (p q : Span) : Span := (p.1, q.2)
def keptS (op : Bool → Bool → Bool) (a b : List Span) (ss : List (Int × Int)) : List Span := ss.filter fun s => op (rowAt Prod.fst Prod.snd a s.1).isSome (rowAt Prod.fst Prod.snd b s.1).isSome
def combS (op : Bool → Bool → Bool) (a b : List Span) (es : List Int) : List Span := merge spC spJ (keptS op a b (segs es))
theorem not_none {r : Type} {lo hi : r → Int} {D : r → PyData} {K : PySem.W.Frag} {H : Hp} {v : V} {o : Option r} (hD : RowOf K lo hi D) (h : Dp K H v (oD D o)) : (!decide (v = .non)) = o.isSome := by
  cases o with
  | none => cases h; rfl
  | some q =>
    obtain ⟨p, rest, rfl, _⟩ := hD _ _ _ h
    rw [decide_eq_false (fun z => by cases z)]; rfl
theorem filter_snoc {α : Type} (f : α → Bool) {xs : List α} {i : Nat} {x : α} (h : xs[i]? = some x) : (xs.take (i + 1)).filter f = (xs.take i).filter f ++ (if f x = true then [x] else []) := by
  obtain ⟨hi, e⟩ := List.getElem?_eq_some_iff.mp h
  rw [List.take_succ_eq_append_getElem hi, List.filter_append, e]
  by_cases c : f x = true
  · rw [if_pos c, List.filter_cons_of_pos c]; rfl
  · rw [if_neg c, List.filter_cons_of_neg c]; rfl
theorem mstep_len {e : Type} (cond : e → e → Bool) (join : e → e → e) (acc : List e) (q : e) : (mstep cond join acc q).length ≤ acc.length + 1 := by
  rcases last_cases acc with rfl | ⟨a, p, rfl⟩
  · exact Nat.le_refl 1
  · rw [mstep_last]; split <;> simp
theorem merge_len {e : Type} (cond : e → e → Bool) (join : e → e → e) : ∀ (n : Nat) (qs : List e), qs.length = n → (merge cond join qs).length ≤ n
  | 0, qs, h => by cases List.eq_nil_of_length_eq_zero h; exact Nat.le_refl 0
  | n + 1, qs, h => by
    rcases last_cases qs with rfl | ⟨a, p, rfl⟩
    · cases h
    rw [merge_snoc]
    have h1 := merge_len cond join n a (by simpa using h)
    have h2 := mstep_len cond join (merge cond join a) p
    omega
theorem dpall_snoc {K : PySem.W.Frag} {H : Hp} : ∀ {ds : List PyData} {d : PyData} {zs : List V}, DpAll K H zs (ds ++ [d]) → ∃ z0 z, zs = z0 ++ [z] ∧ DpAll K H z0 ds ∧ Dp K H z d
  | [], d, zs, h => by
    cases h with | cons h1 h2 => cases h2; exact ⟨[], _, rfl, .nil, h1⟩
  | e :: ds, d, zs, h => by
    cases h with | cons h1 h2 =>
      obtain ⟨z0, z, e1, e2, e3⟩ := dpall_snoc h2
      exact ⟨_ :: z0, z, by rw [e1]; rfl, .cons h1 e2, e3⟩
def sp__combined_spans (A : Adr) (K : PySem.W.Frag) : Sp := fun vs H Q _ => ∃ (op : Bool → Bool → Bool) (a b : List Span) (pa pb f : Addr) (xa xb : List V) (U : Hp), vs = [.ref pa, .ref pb, .ref f] ∧ KeepAt A f op ∧ Same U H ∧ SqT K U pa xa ∧ DpAll K U xa (a.map spanD) ∧ SqT K U pb xb ∧ DpAll K U xb (b.map spanD) ∧
  Rows Prod.fst Prod.snd a ∧ Rows Prod.fst Prod.snd b ∧ a.length + b.length < 900 ∧ (∃ e0 : List Int, (∀ k, k ∈ edgeL Prod.fst Prod.snd a b → k ∈ e0) ∧ e0.length < 64) ∧
  ∀ v U' H' es, Ext U H U' H' → es.Pairwise (· < ·) → (∀ k, k ∈ es ↔ k ∈ edgeL Prod.fst Prod.snd a b) → Dp K U' v (spansD (combS op a b es)) → Q v H'
theorem sc__combined_spans : FnScope ["a", "b", "keeps", "spans", "begin", "end", "first", "second"] ["a", "b", "keeps"] (defScope s__combined_spans) := ⟨rfl, rfl, rfl, by decide +kernel, rfl, by decide +kernel, by decide +kernel⟩
theorem ok__combined_spans (T : Txt K mg A) : FnOk P w K mg base CX0 3 A.f_combined_spans A.d_combined_spans ["a", "b", "keeps"] (sp__combined_spans A K) := by
  refine T.F_combined_spans.ok sc__combined_spans (fun vs H Q E h => ?_) (fun cdv Ar outer s H vs Q E hr h => ?_)
  · obtain ⟨_, _, _, _, _, _, _, _, _, rfl, _⟩ := h
    rfl
  · obtain ⟨op, a, b, pa, pb, f, xa, xb, U, rfl, hk, sU, hSa, hXa, hSb, hXb, Ra, Rb, hln, he0, q⟩ := h
    obtain ⟨fdk, psk, Fkeeps, kkeeps, bkeeps⟩ := keep_ok (P := P) (w := w) (base := base) T hk
    refine ⟨_, (pss_cons (ps_set (i := 3) sc__combined_spans.nd rfl (Or.inl rfl) (pe_lst pa_nil))
      (pss_cons (ps_for PassesOwn.never rfl (pi_list (pe_call (ok__pieces_T T) (hr.mono (by decide)) rfl T.g_pieces T.k_pieces T.b_pieces .nil pass0 (pa_cons (pv 0) (pa_cons (pv 1) pa_nil)))) (pg_tup rfl (pgs_cons (pg_name (i := 4) sc__combined_spans.nd rfl (Or.inl rfl)) (pgs_cons (pg_name (i := 5) sc__combined_spans.nd rfl (Or.inl rfl)) (pgs_cons (pg_name (i := 6) sc__combined_spans.nd rfl (Or.inl rfl)) (pgs_cons (pg_name (i := 7) sc__combined_spans.nd rfl (Or.inl rfl)) pgs_nil)))))
      (pss_cons (ps_if (pt_not (pt_val (pe_callL (i := 2) Fkeeps (hr.mono (by decide)) rfl (Or.inl rfl) kkeeps bkeeps .nil pass0 (pa_cons (pe_cmpR op_notN (pv 6) pe_non (nomark _)) (pa_cons (pe_cmpR op_notN (pv 7) pe_non (nomark _)) pa_nil)))))
      (pss_one ps_continue)
      pss_nil)
      (C8.pss_cut (ps_if (PW.pt (pw_and (pt_truth (pv 3) (by intro _; rfl)) (pw_and1 (pt_cmpR op_eq (pe_ix (r := rIxT K) ix_tup (pe_ix (r := rIxL K) ix_list (pv 3) (pe_un un_neg pe_int) (fun _ _ => rfl)) pe_int (fun _ _ => rfl)) (pv 4) (nomark _)))))
      (pss_one (ps_set (i := 4) sc__combined_spans.nd rfl (Or.inl rfl) (pe_ix (r := rIxT K) ix_tup (pe_bm0 PySem.F.plainAttrs_list PySem.F.slot_list_pop PySem.F.type_list_pop mt_pop (pv 3)) pe_int (fun _ _ => rfl))))
      pss_nil)
      (pss_one (ps_expr (pe_bm PySem.F.plainAttrs_list PySem.F.slot_list_append PySem.F.type_list_append mt_append (pv 3) (pa_cons (pe_tup (pa_cons (pv 4) (pa_cons (pv 5) pa_nil))) pa_nil)))))))
      (pss_one (ps_ret (pe_callTy call_tuple_of (by rfl) T.tuple (by decide +kernel) (pa_cons (pv 3) pa_nil)))))), ?_⟩
    refine ⟨len_line (by show 0 ≤ 100000; decide), fun D hD => ?_⟩
    have npD : H D = none := hD
    have inv0 := LcInv.start (K := K) sU hD
    have s0 : Same H (upd H D (.lst [])) := same_upd hD
    have eD0 : (upd H D (.lst [])) D = _ := upd_same
    generalize upd H D (.lst []) = H1 at inv0 s0 eD0 ⊢
    refine ⟨_, rfl, _, rfl, Span, Prod.fst, Prod.snd, spanD, a, b, pa, pb, xa, xb, U, rfl, row_span, sU.trans s0, hSa, hXa, hSb, hXb, Ra, Rb, hln, he0, fun vp U2 H2 es x2 hel hep hem dvp => ?_⟩
    obtain ⟨pp, ps, rfl, hpp, hps⟩ := dp_list dvp
    have lps : ps.length = (segs es).length := by rw [dpall_len hps, List.length_map]
    -- the view of the loop: U2, in which D is not
    have hD2 : U2 D = none := x2.keepOut (none_of_same sU hD) (by rw [eD0]; exact fun z => by cases z)
    have lsg : (segs es).length < 1000 := by rw [segs_len]; omega
    have xb : Ext U H U2 H2 := ⟨x2.vv, x2.vh, s0.trans x2.hh, fun a h => by
      rcases x2.nw a h with z | z
      · exact .inl z
      · exact .inr (s0.free z)⟩
    refine ⟨pp, rfl, ⟨_, x2.vh.seq hpp⟩, for_list (K := K) (a := pp) (xs := ps) (fun i σ H' => ∃ (v4 v5 v6 v7 : Option V) (V' : Hp) (zs : List V), σ = [some (.ref pa), some (.ref pb), some (.ref f), some (.ref D), v4, v5, v6, v7] ∧ Ext U H V' H' ∧ Same U2 V' ∧ V' D = none ∧ H' D = some (.lst zs) ∧ DpAll K V' zs ((merge spC spJ (keptS op a b ((segs es).take i))).map spanD)) ?_ ?_ ?_ ?_⟩
    · exact ⟨_, _, _, _, U2, [], rfl, xb, Same.refl _, hD2, x2.hh _ _ eD0, .nil⟩
    · rintro i σ H' _ ⟨_, _, _, _, V', zs, _, x, sv, _⟩
      exact x.vh.seq (sv.seq hpp)
    · rintro i x σ H3 hx ⟨v4, v5, v6, v7, V3, zs, rfl, x3, sv3, hV3, hz, dz⟩
      obtain ⟨d, hd, dv⟩ := dpall_get hps hx
      rw [List.getElem?_map] at hd
      obtain ⟨⟨bg, en⟩, hsg, rfl⟩ := Option.map_eq_some_iff.mp hd
      obtain ⟨pt, ws, rfl, qt, rt⟩ := dp_tuple dv
      cases rt with | cons r1 rt => cases rt with | cons r2 rt => cases rt with | cons r3 rt => cases rt with | cons r4 rt =>
      cases rt; cases r1; cases r2
      rename_i va vb
      have n1 := not_none row_span r3
      have n2 := not_none row_span r4
      refine ⟨pt, _, rfl, x3.vh.sqt (sv3.sqt qt), rfl, _, _, rfl, _, _, rfl, _, _, rfl, _, _, rfl, rfl, ?_⟩
      refine ⟨rfl, _, rfl, rfl, _, rfl, rfl, _, _, rfl, _, rfl, ?_⟩
      rw [n1, n2]
      have hf := filter_snoc (fun s => op (rowAt Prod.fst Prod.snd a s.1).isSome (rowAt Prod.fst Prod.snd b s.1).isSome) hsg
      have hi : i < (segs es).length := (List.getElem?_eq_some_iff.mp hsg).1
      cases hc : op (rowAt Prod.fst Prod.snd a bg).isSome (rowAt Prod.fst Prod.snd b bg).isSome with
      | false =>
        refine if_t rfl ?_
        refine ⟨_, _, _, _, V3, zs, rfl, x3, sv3, hV3, hz, ?_⟩
        have e : keptS op a b ((segs es).take (i + 1)) = keptS op a b ((segs es).take i) := by
          unfold keptS; rw [hf]; dsimp only; rw [hc]; simp
        rw [e]; exact dz
      | true =>
        refine if_f rfl ?_
        have e : merge spC spJ (keptS op a b ((segs es).take (i + 1))) = mstep spC spJ (merge spC spJ (keptS op a b ((segs es).take i))) (bg, en) := by
          rw [← merge_snoc]; unfold keptS; rw [hf]; dsimp only; rw [hc]; simp
        rw [e]
        have lm : (merge spC spJ (keptS op a b ((segs es).take i))).length ≤ 1000 := by
          have h1 := merge_len spC spJ _ (keptS op a b ((segs es).take i)) rfl
          have h2 : (keptS op a b ((segs es).take i)).length ≤ ((segs es).take i).length := List.length_filter_le _ _
          rw [List.length_take] at h2
          omega
        generalize merge spC spJ (keptS op a b ((segs es).take i)) = m at dz lm ⊢
        refine ⟨fun σ' H' => ∃ (bg' : Int) (m' : List Span) (zs' : List V), σ' = [some (.ref pa), some (.ref pb), some (.ref f), some (.ref D), some (.int bg'), some (.int en), some va, some vb] ∧ Ext U H V3 H' ∧ H' D = some (.lst zs') ∧ DpAll K V3 zs' (m'.map spanD) ∧ mstep spC spJ m (bg, en) = m' ++ [(bg', en)] ∧ m'.length ≤ 1000, ?_, ?_⟩
        · rcases last_cases m with rfl | ⟨m0, p0, rfl⟩
          · cases dz
            refine ⟨_, rfl, false, .inl ⟨[], SqL.of hz, rfl⟩, if_f rfl ?_⟩
            exact ⟨bg, [], [], rfl, x3, hz, .nil, rfl, Nat.zero_le _⟩
          · rw [List.map_append] at dz
            obtain ⟨z0, zp, rfl, d0, dp0⟩ := dpall_snoc dz
            obtain ⟨ap, rfl, qp⟩ := dp_span dp0
            have qp3 := x3.vh.sqt qp
            refine ⟨_, rfl, true, .inl ⟨_, SqL.of hz, by simp⟩, if_t rfl ?_⟩
            refine ⟨_, rfl, _, rfl, D, _, _, _, rfl, rfl, SqL.of hz, atI_last _ _, ap, _, _, _, rfl, rfl, qp3, atI_nat (j := 1) rfl, ?_⟩
            refine ⟨_, rfl, rfl, _, rfl, iteEq (fun h => ?_) (fun h => ?_)⟩
            · refine ⟨_, rfl, .inl ⟨rfl, _, SqL.of hz⟩, D, _, .ref ap, rfl, rfl, hz, by simp, ?_⟩
              rw [List.dropLast_concat]
              have x4 := x3.poke (o := .lst z0) npD hV3
              refine ⟨ap, _, _, _, rfl, rfl, x4.vh.sqt qp, atI_nat (j := 0) rfl, ?_⟩
              refine ⟨p0.1, m0, z0, rfl, x4, upd_same, d0, ?_, by rw [List.length_append] at lm; omega⟩
              rw [mstep_last, if_pos (by unfold spC; exact decide_eq_true h)]; rfl
            · refine ⟨bg, m0 ++ [p0], z0 ++ [.ref ap], rfl, x3, hz, by rw [List.map_append]; exact dz, ?_, lm⟩
              rw [mstep_last, if_neg (by unfold spC; rw [decide_eq_false h]; decide)]
        · rintro σ' H4 ⟨bg', m', zs', rfl, x4, hz4, dz4, em, lm'⟩
          rw [em]
          refine ⟨_, rfl, .inl ⟨rfl, _, SqL.of hz4⟩, _, rfl, _, rfl, len_line (by show 2 ≤ 100000; decide), fun p5 h5 => ?_⟩
          have xn := Ext.new (o := .tup [.int bg', .int en]) x4.vh h5
          have x5 := x4.trans xn
          have hV5 := xn.keepOut hV3 (by rw [hz4]; exact fun z => by cases z)
          have hz5 := xn.hh _ _ hz4
          refine ⟨D, _, _, rfl, rfl, hz5, lt_line (by rw [dpall_len dz4, List.length_map]; omega), ?_⟩
          refine ⟨_, _, _, _, _, _, rfl, x5.poke npD hV5, sv3.trans xn.vv, hV5, upd_same, ?_⟩
          rw [List.map_append]
          exact dpall_app (dz4.to xn.vv) (.cons (mk_span (s := (bg', en)) (SqT.of upd_same)) .nil)
    · rintro σ H3 ⟨v4, v5, v6, v7, V3, zs, rfl, x3, sv3, hV3, hz, dz⟩
      rw [lps, List.take_length] at dz
      refine ⟨_, rfl, D, zs, rfl, .inl ⟨SqL.of hz, fun pr hpr => ?_⟩⟩
      have xn := Ext.new (o := .tup zs) x3.vh hpr
      exact q _ _ _ es (x3.trans xn) hep hem (.tup (SqT.of upd_same) (dz.to xn.vv))

def spansOf : Option Band → List Span
  | none => []
  | some b => b.2.2
def sp__spans_of (K : PySem.W.Frag) : Sp := fun vs H Q _ => ∃ (v : V) (o : Option Band) (U : Hp), vs = [v] ∧ Same U H ∧ Dp K U v (oD bandD o) ∧ ∀ p xs U' H', Ext U H U' H' → SqT K U' p xs → DpAll K U' xs ((spansOf o).map spanD) → Q (.ref p) H'
theorem sc__spans_of : FnScope ["band"] ["band"] (defScope s__spans_of) := ⟨rfl, rfl, rfl, by decide +kernel, rfl, by decide +kernel, by decide +kernel⟩
theorem ok__spans_of (T : Txt K mg A) : FnOk P w K mg base CX0 1 A.f_spans_of A.d_spans_of ["band"] (sp__spans_of K) := by
  refine T.F_spans_of.ok sc__spans_of (fun vs H Q E h => ?_) (fun cdv Ar outer s H vs Q E hr h => ?_)
  · obtain ⟨_, _, _, rfl, _⟩ := h
    rfl
  · obtain ⟨v, o, U, rfl, sU, dv, q⟩ := h
    refine ⟨_, (pss_one (ps_ret (pe_ifExp (pt_cmpR op_isN (pv 0) pe_non (nomark _)) (pe_tup pa_nil) (pe_ix (r := rIxT K) ix_tup (pv 0) pe_int (fun _ _ => rfl))))), ?_⟩
    cases o with
    | none =>
      cases dv
      refine ⟨_, rfl, rfl, _, rfl, if_t rfl ?_⟩
      refine ⟨len_line (by show 0 ≤ 100000; decide), fun p hp => q p [] _ _ (Ext.new sU hp) (SqT.of upd_same) .nil⟩
    | some b =>
      obtain ⟨a, p, ss, rfl, h1, h2, h3⟩ := dp_band dv
      refine ⟨_, rfl, rfl, _, rfl, if_f rfl ?_⟩
      refine ⟨_, rfl, a, _, _, _, rfl, rfl, sU.sqt h1, atI_nat (j := 2) rfl, ?_⟩
      exact q p ss U H (Ext.refl sU) h2 h3
/-! ### bands that touch become one; the three operations -/
theorem eqv_span (s t : Span) : PyData.eqv (spanD s) (spanD t) = decide (s = t) := by
  obtain ⟨a, b⟩ := s
  obtain ⟨c, d⟩ := t
  show PyData.eqv (.tuple [.int a, .int b]) (.tuple [.int c, .int d]) = _
  simp only [PyData.eqv, PyData.eqvAll, Bool.and_true]
  by_cases h1 : a = c
  · by_cases h2 : b = d
    · subst h1; subst h2; simp
    · simp [h2]
  · simp [h1]
theorem eqvAll_spans : ∀ s t : List Span, PyData.eqvAll (s.map spanD) (t.map spanD) = decide (s = t)
  | [], [] => by simp [PyData.eqvAll]
  | [], _ :: _ => by simp [PyData.eqvAll]
  | _ :: _, [] => by simp [PyData.eqvAll]
  | a :: s, b :: t => by
    simp only [List.map_cons, PyData.eqvAll]
    rw [eqv_span, eqvAll_spans s t]
    by_cases h1 : a = b
    · subst h1; by_cases h2 : s = t <;> simp [h2]
    · simp [h1]
theorem eqv_spans (s t : List Span) : PyData.eqv (spansD s) (spansD t) = decide (s = t) := by
  unfold spansD
  rw [show PyData.eqv (.tuple (s.map spanD)) (.tuple (t.map spanD)) = PyData.eqvAll (s.map spanD) (t.map spanD) from by simp only [PyData.eqv]]
  exact eqvAll_spans s t
def bdC (p q : Band) : Bool := decide (p.2.1 = q.1) && decide (p.2.2 = q.2.2)
def bdJ (p q : Band) : Band := (p.1, q.2.1, q.2.2)
def joinM (bs : List Band) : List Band := merge bdC bdJ (bs.filter fun b => !b.2.2.isEmpty)
def sp__joined (K : PySem.W.Frag) : Sp := fun vs H Q _ => ∃ (bs : List Band) (v : V) (U : Hp), vs = [v] ∧ Same U H ∧ Dp K U v (regD bs) ∧ bs.length ≤ 20000 ∧ ∀ v' U' H', Ext U H U' H' → Dp K U' v' (regD (joinM bs)) → Q v' H'
theorem sc__joined : FnScope ["bands", "region", "top", "bottom", "spans"] ["bands"] (defScope s__joined) := ⟨rfl, rfl, rfl, by decide +kernel, rfl, by decide +kernel, by decide +kernel⟩
theorem ok__joined (T : Txt K mg A) : FnOk P w K mg base CX0 1 A.f_joined A.d_joined ["bands"] (sp__joined K) := by
  refine T.F_joined.ok sc__joined (fun vs H Q E h => ?_) (fun cdv Ar outer s H vs Q E hr h => ?_)
  · obtain ⟨_, _, _, rfl, _⟩ := h
    rfl
  · obtain ⟨bs, v, U, rfl, sU, dv, hln, q⟩ := h
    obtain ⟨pb, xs, rfl, hpb, hxs⟩ := dp_list dv
    have lxs : xs.length = bs.length := by rw [dpall_len hxs, List.length_map]
    refine ⟨_, (pss_cons (ps_set (i := 1) sc__joined.nd rfl (Or.inl rfl) (pe_lst pa_nil))
      (pss_cons (ps_for PassesOwn.never rfl (pi_list (pv 0)) (pg_tup rfl (pgs_cons (pg_name (i := 2) sc__joined.nd rfl (Or.inl rfl)) (pgs_cons (pg_name (i := 3) sc__joined.nd rfl (Or.inl rfl)) (pgs_cons (pg_name (i := 4) sc__joined.nd rfl (Or.inl rfl)) pgs_nil))))
      (pss_cons (ps_if (pt_not (pt_truth (pv 4) (by intro _; rfl)))
      (pss_one ps_continue)
      pss_nil)
      (C8.pss_cut (ps_if (PW.pt (pw_and (pt_truth (pv 1) (by intro _; rfl)) (pw_and (pt_cmpR op_eq (pe_ix (r := rIxT K) ix_tup (pe_ix (r := rIxL K) ix_list (pv 1) (pe_un un_neg pe_int) (fun _ _ => rfl)) pe_int (fun _ _ => rfl)) (pv 2) (nomark _)) (pw_and1 (pt_cmpR (op_eqD hr.units) (pe_ix (r := rIxT K) ix_tup (pe_ix (r := rIxL K) ix_list (pv 1) (pe_un un_neg pe_int) (fun _ _ => rfl)) pe_int (fun _ _ => rfl)) (pv 4) (nomark _))))))
      (pss_one (ps_set (i := 2) sc__joined.nd rfl (Or.inl rfl) (pe_ix (r := rIxT K) ix_tup (pe_bm0 PySem.F.plainAttrs_list PySem.F.slot_list_pop PySem.F.type_list_pop mt_pop (pv 1)) pe_int (fun _ _ => rfl))))
      pss_nil)
      (pss_one (ps_expr (pe_bm PySem.F.plainAttrs_list PySem.F.slot_list_append PySem.F.type_list_append mt_append (pv 1) (pa_cons (pe_tup (pa_cons (pv 2) (pa_cons (pv 3) (pa_cons (pv 4) pa_nil)))) pa_nil)))))))
      (pss_one (ps_ret (pv 1))))), ?_⟩
    refine ⟨len_line (by show 0 ≤ 100000; decide), fun D hD => ?_⟩
    have npD : H D = none := hD
    have hUD : U D = none := none_of_same sU hD
    refine ⟨_, rfl, pb, rfl, ⟨_, (same_upd hD).seq (sU.seq hpb)⟩, for_list (K := K) (a := pb) (xs := xs) (fun i σ H' => ∃ (v2 v3 v4 : Option V) (V' : Hp) (zs : List V), σ = [some (.ref pb), some (.ref D), v2, v3, v4] ∧ Ext U H V' H' ∧ V' D = none ∧ H' D = some (.lst zs) ∧ DpAll K V' zs ((merge bdC bdJ ((bs.take i).filter fun b => !b.2.2.isEmpty)).map bandD)) ?_ ?_ ?_ ?_⟩
    · exact ⟨_, _, _, U, [], rfl, Ext.skip sU hD, hUD, upd_same, .nil⟩
    · rintro i σ H' _ ⟨_, _, _, V', zs, _, x, _⟩
      exact x.vh.seq (x.vv.seq hpb)
    · rintro i x σ H3 hx ⟨v2, v3, v4, V3, zs, rfl, x3, hV3, hz, dz⟩
      obtain ⟨d, hd, dv⟩ := dpall_get hxs hx
      rw [List.getElem?_map] at hd
      obtain ⟨⟨tp, bt, ss⟩, hb, rfl⟩ := Option.map_eq_some_iff.mp hd
      obtain ⟨pt, p2, ws, rfl, qt, q2, r2⟩ := dp_band dv
      have qt3 := x3.vh.sqt (x3.vv.sqt qt)
      have q23 := x3.vh.sqt (x3.vv.sqt q2)
      have lws : ws.isEmpty = ss.isEmpty := by
        have := dpall_len r2
        rw [List.length_map] at this
        cases ws <;> cases ss <;> first | rfl | (simp at this)
      refine ⟨pt, _, rfl, qt3, rfl, _, _, rfl, _, _, rfl, _, _, rfl, rfl, ?_⟩
      refine ⟨_, rfl, _, .inr (.inl ⟨ws, q23, rfl⟩), ?_⟩
      rw [lws]
      have hf := filter_snoc (fun b : Band => !b.2.2.isEmpty) hb
      have hi : i < bs.length := (List.getElem?_eq_some_iff.mp hb).1
      cases hc : ss.isEmpty with
      | true =>
        refine if_t rfl ?_
        refine ⟨_, _, _, V3, zs, rfl, x3, hV3, hz, ?_⟩
        rw [hf]; dsimp only; rw [hc]; simpa using dz
      | false =>
        refine if_f rfl ?_
        have e : merge bdC bdJ ((bs.take (i + 1)).filter fun b => !b.2.2.isEmpty) = mstep bdC bdJ (merge bdC bdJ ((bs.take i).filter fun b => !b.2.2.isEmpty)) (tp, bt, ss) := by
          rw [← merge_snoc, hf]; dsimp only; rw [hc]; simp
        rw [e]
        have lm : (merge bdC bdJ ((bs.take i).filter fun b => !b.2.2.isEmpty)).length ≤ 20000 := by
          have h1 := merge_len bdC bdJ _ ((bs.take i).filter fun b => !b.2.2.isEmpty) rfl
          have h2 : ((bs.take i).filter fun b => !b.2.2.isEmpty).length ≤ (bs.take i).length := List.length_filter_le _ _
          rw [List.length_take] at h2
          omega
        generalize merge bdC bdJ ((bs.take i).filter fun b => !b.2.2.isEmpty) = m at dz lm ⊢
        refine ⟨fun σ' H' => ∃ (tp' : Int) (m' : List Band) (zs' : List V), σ' = [some (.ref pb), some (.ref D), some (.int tp'), some (.int bt), some (.ref p2)] ∧ Ext U H V3 H' ∧ H' D = some (.lst zs') ∧ DpAll K V3 zs' (m'.map bandD) ∧ mstep bdC bdJ m (tp, bt, ss) = m' ++ [(tp', bt, ss)] ∧ m'.length ≤ 20000, ?_, ?_⟩
        · rcases last_cases m with rfl | ⟨m0, p0, rfl⟩
          · cases dz
            refine ⟨_, rfl, false, .inl ⟨[], SqL.of hz, rfl⟩, if_f rfl ?_⟩
            exact ⟨tp, [], [], rfl, x3, hz, .nil, rfl, Nat.zero_le _⟩
          · rw [List.map_append] at dz
            obtain ⟨z0, zp, rfl, d0, dp0⟩ := dpall_snoc dz
            obtain ⟨ap, pp0, ss0, rfl, qp, qq, rr⟩ := dp_band dp0
            have qp3 := x3.vh.sqt qp
            have same : ∀ h : ¬ (p0.2.1 = tp ∧ p0.2.2 = ss), ∃ (tp' : Int) (m' : List Band) (zs' : List V), [some (V.ref pb), some (V.ref D), some (V.int tp), some (V.int bt), some (V.ref p2)] = [some (V.ref pb), some (V.ref D), some (V.int tp'), some (V.int bt), some (V.ref p2)] ∧ Ext U H V3 H3 ∧ H3 D = some (.lst zs') ∧ DpAll K V3 zs' (m'.map bandD) ∧ mstep bdC bdJ (m0 ++ [p0]) (tp, bt, ss) = m' ++ [(tp', bt, ss)] ∧ m'.length ≤ 20000 := fun h => by
              refine ⟨tp, m0 ++ [p0], z0 ++ [.ref ap], rfl, x3, hz, by rw [List.map_append]; exact dz, ?_, lm⟩
              rw [mstep_last, if_neg]
              unfold bdC
              intro c
              rw [Bool.and_eq_true, decide_eq_true_eq, decide_eq_true_eq] at c
              exact h c
            refine ⟨_, rfl, true, .inl ⟨_, SqL.of hz, by simp⟩, if_t rfl ?_⟩
            refine ⟨_, rfl, _, rfl, D, _, _, _, rfl, rfl, SqL.of hz, atI_last _ _, ap, _, _, _, rfl, rfl, qp3, atI_nat (j := 1) rfl, ?_⟩
            refine ⟨_, rfl, rfl, _, rfl, iteEq (fun h => ?_) (fun h => ?_)⟩
            · refine ⟨_, rfl, _, rfl, D, _, _, _, rfl, rfl, SqL.of hz, atI_last _ _, ap, _, _, _, rfl, rfl, qp3, atI_nat (j := 2) rfl, ?_⟩
              have ds0 : Dp K H3 (.ref pp0) (spansD p0.2.2) := (Dp.tup qq rr : Dp K V3 (.ref pp0) (spansD p0.2.2)).to x3.vh
              have ds1 : Dp K H3 (.ref p2) (spansD ss) := ((Dp.tup q2 r2 : Dp K U (.ref p2) (spansD ss)).to x3.vv).to x3.vh
              refine ⟨_, rfl, _, _, ds0, ds1, (sh_spans _).shaped, (sh_spans _).shaped, _, rfl, ?_⟩
              rw [eqv_spans]
              refine iteP (fun h2 => ?_) (fun h2 => ?_)
              · refine ⟨_, rfl, .inl ⟨rfl, _, SqL.of hz⟩, D, _, .ref ap, rfl, rfl, hz, by simp, ?_⟩
                rw [List.dropLast_concat]
                have x4 := x3.poke (o := .lst z0) npD hV3
                refine ⟨ap, _, _, _, rfl, rfl, x4.vh.sqt qp, atI_nat (j := 0) rfl, ?_⟩
                refine ⟨p0.1, m0, z0, rfl, x4, upd_same, d0, ?_, by rw [List.length_append] at lm; omega⟩
                rw [mstep_last, if_pos (by unfold bdC; rw [decide_eq_true h, decide_eq_true h2]; rfl)]; rfl
              · exact same fun c => h2 c.2
            · exact same fun c => h c.1
        · rintro σ' H4 ⟨tp', m', zs', rfl, x4, hz4, dz4, em, lm'⟩
          rw [em]
          refine ⟨_, rfl, .inl ⟨rfl, _, SqL.of hz4⟩, _, rfl, _, rfl, _, rfl, len_line (by show 3 ≤ 100000; decide), fun p5 h5 => ?_⟩
          have xn := Ext.new (o := .tup [.int tp', .int bt, .ref p2]) x4.vh h5
          have hV5 := xn.keepOut hV3 (by rw [hz4]; exact fun z => by cases z)
          have hz5 := xn.hh _ _ hz4
          refine ⟨D, _, _, rfl, rfl, hz5, lt_line (by rw [dpall_len dz4, List.length_map]; omega), ?_⟩
          refine ⟨_, _, _, _, _, rfl, (x4.trans xn).poke npD hV5, hV5, upd_same, ?_⟩
          rw [List.map_append]
          have sv := x3.vv.trans xn.vv
          exact dpall_app (dz4.to xn.vv) (.cons (mk_band (b := (tp', bt, ss)) (SqT.of upd_same) (sv.sqt q2) (r2.to sv)) .nil)
    · rintro σ H3 ⟨v2, v3, v4, V3, zs, rfl, x3, hV3, hz, dz⟩
      rw [lxs, List.take_length] at dz
      refine ⟨_, rfl, ?_⟩
      exact q _ _ _ (x3.take npD hV3 hz) (.lst (SqL.of upd_same) (dz.to (same_upd hV3)))
/-! ### the edges as a function; two regions together -/
def insE (x : Int) : List Int → List Int
  | [] => [x]
  | y :: t => if x < y then x :: y :: t else if x = y then y :: t else y :: insE x t
def esOf (L : List Int) : List Int := L.foldr insE []
theorem insE_mem (x : Int) : ∀ (l : List Int) (k : Int), k ∈ insE x l ↔ k = x ∨ k ∈ l
  | [], k => by simp [insE]
  | y :: t, k => by
    unfold insE
    by_cases h1 : x < y
    · rw [if_pos h1]; simp
    · rw [if_neg h1]
      by_cases h2 : x = y
      · rw [if_pos h2]; subst h2; simp
      · rw [if_neg h2, List.mem_cons, insE_mem x t k, List.mem_cons]
        constructor
        · rintro (h | h | h)
          · exact .inr (.inl h)
          · exact .inl h
          · exact .inr (.inr h)
        · rintro (h | h | h)
          · exact .inr (.inl h)
          · exact .inl h
          · exact .inr (.inr h)
theorem insE_pw (x : Int) : ∀ (l : List Int), l.Pairwise (· < ·) → (insE x l).Pairwise (· < ·)
  | [], _ => List.pairwise_singleton _ _
  | y :: t, h => by
    have h' := List.pairwise_cons.mp h
    unfold insE
    by_cases h1 : x < y
    · rw [if_pos h1]
      refine List.pairwise_cons.mpr ⟨fun z hz => ?_, h⟩
      rcases List.mem_cons.mp hz with rfl | hz
      · exact h1
      · exact Int.lt_trans h1 (h'.1 z hz)
    · rw [if_neg h1]
      by_cases h2 : x = y
      · rw [if_pos h2]; exact h
      · rw [if_neg h2]
        refine List.pairwise_cons.mpr ⟨fun z hz => ?_, insE_pw x t h'.2⟩
        rcases (insE_mem x t z).mp hz with rfl | hz
        · omega
        · exact h'.1 z hz
theorem esOf_mem (L : List Int) (k : Int) : k ∈ esOf L ↔ k ∈ L := by
  unfold esOf
  induction L with
  | nil => exact Iff.rfl
  | cons x t ih => rw [List.foldr_cons, insE_mem, ih, List.mem_cons]
theorem esOf_pw (L : List Int) : (esOf L).Pairwise (· < ·) := by
  unfold esOf
  induction L with
  | nil => exact .nil
  | cons x t ih => exact insE_pw x _ ih
theorem sorted_eq : ∀ {a b : List Int}, a.Pairwise (· < ·) → b.Pairwise (· < ·) → (∀ k, k ∈ a ↔ k ∈ b) → a = b
  | [], [], _, _, _ => rfl
  | [], y :: t, _, _, h => by have := (h y).mpr List.mem_cons_self; cases this
  | x :: s, [], _, _, h => by have := (h x).mp List.mem_cons_self; cases this
  | x :: s, y :: t, ha, hb, h => by
    have ha' := List.pairwise_cons.mp ha
    have hb' := List.pairwise_cons.mp hb
    have e : x = y := by
      have h1 := (h x).mp List.mem_cons_self
      have h2 := (h y).mpr List.mem_cons_self
      rcases List.mem_cons.mp h1 with h1 | h1
      · exact h1
      · rcases List.mem_cons.mp h2 with h2 | h2
        · exact h2.symm
        · have g1 := hb'.1 x h1
          have g2 := ha'.1 y h2
          omega
    subst e
    rw [sorted_eq ha'.2 hb'.2 fun k => ?_]
    have hk := h k
    constructor
    · intro hs
      have g := ha'.1 k hs
      rcases List.mem_cons.mp (hk.mp (List.mem_cons_of_mem _ hs)) with e | e
      · omega
      · exact e
    · intro hs
      have g := hb'.1 k hs
      rcases List.mem_cons.mp (hk.mpr (List.mem_cons_of_mem _ hs)) with e | e
      · omega
      · exact e
theorem es_eq {es L : List Int} (h1 : es.Pairwise (· < ·)) (h2 : ∀ k, k ∈ es ↔ k ∈ L) : es = esOf L :=
  sorted_eq h1 (esOf_pw L) fun k => by rw [h2, esOf_mem]
def cmbS (op : Bool → Bool → Bool) (a b : List Span) : List Span := combS op a b (esOf (edgeL Prod.fst Prod.snd a b))
abbrev bLo (b : Band) : Int := b.1
abbrev bHi (b : Band) : Int := b.2.1
def cmbB (op : Bool → Bool → Bool) (A B : List Band) (s : Int × Int) : Band := (s.1, s.2, cmbS op (spansOf (rowAt bLo bHi A s.1)) (spansOf (rowAt bLo bHi B s.1)))
def cmbR (op : Bool → Bool → Bool) (A B : List Band) : List Band := joinM ((segs (esOf (edgeL bLo bHi A B))).map (cmbB op A B))
structure RegOk (R : List Band) : Prop where
  rows : Rows bLo bHi R
  sps : ∀ b ∈ R, Rows Prod.fst Prod.snd b.2.2
  few : R.length < 100
  fews : ∀ b ∈ R, b.2.2.length < 100
  gaps : ∀ b ∈ R, b.2.2.Pairwise fun s t => s.2 < t.1
/-- two regions whose edges are few, taken together -/
def Pair (A B : List Band) : Prop := (∃ e0 : List Int, (∀ k, k ∈ edgeL bLo bHi A B → k ∈ e0) ∧ e0.length < 64) ∧
  ∀ p, ∃ e0 : List Int, (∀ k, k ∈ edgeL Prod.fst Prod.snd (spansOf (rowAt bLo bHi A p)) (spansOf (rowAt bLo bHi B p)) → k ∈ e0) ∧ e0.length < 64
theorem RegOk.at_ {R : List Band} (h : RegOk R) (p : Int) : Rows Prod.fst Prod.snd (spansOf (rowAt bLo bHi R p)) ∧ (spansOf (rowAt bLo bHi R p)).length < 100 := by
  cases e : rowAt bLo bHi R p with
  | none => exact ⟨⟨fun q hq => (by cases hq), List.Pairwise.nil⟩, by show 0 < 100; decide⟩
  | some b =>
    have hb : b ∈ R := List.mem_of_find?_eq_some e
    exact ⟨h.sps b hb, h.fews b hb⟩
def sp__combined (A : Adr) (K : PySem.W.Frag) : Sp := fun vs H Q _ => ∃ (op : Bool → Bool → Bool) (Ra Rb : List Band) (va vb : V) (f : Addr) (U : Hp), vs = [va, vb, .ref f] ∧ KeepAt A f op ∧ Same U H ∧ Dp K U va (regD Ra) ∧ Dp K U vb (regD Rb) ∧ RegOk Ra ∧ RegOk Rb ∧ Pair Ra Rb ∧
  ∀ v U' H', Ext U H U' H' → Dp K U' v (regD (cmbR op Ra Rb)) → Q v H'
theorem sc__combined : FnScope ["a", "b", "keeps", "top", "bottom", "first", "second"] ["a", "b", "keeps"] (defScope s__combined) := ⟨rfl, rfl, rfl, by decide +kernel, rfl, by decide +kernel, by decide +kernel⟩
theorem ok__combined (T : Txt K mg A) : FnOk P w K mg base CX0 4 A.f_combined A.d_combined ["a", "b", "keeps"] (sp__combined A K) := by
  refine T.F_combined.ok sc__combined (fun vs H Q E h => ?_) (fun cdv Ar outer s H vs Q E hr h => ?_)
  · obtain ⟨_, _, _, _, _, _, _, rfl, _⟩ := h
    rfl
  · obtain ⟨op, Ra, Rb, va, vb, f, U, rfl, hk, sU, da, db, oa, ob, pr, q⟩ := h
    obtain ⟨pa, xa, rfl, hpa, hxa⟩ := dp_list da
    obtain ⟨pb, xb, rfl, hpb, hxb⟩ := dp_list db
    refine ⟨_, (pss_one (ps_ret (pe_call (ok__joined T) (hr.mono (by decide)) rfl T.g_joined T.k_joined T.b_joined .nil pass0 (pa_cons (pe_lc (own := [("top", 3), ("bottom", 4), ("first", 5), ("second", 6)]) (g := (gTup K 4 (gCons (gName 3) (gCons (gName 4) (gCons (gName 5) (gCons (gName 6) gNil)))))) (tt := tYes) rfl sc__combined.nd (pi_list (pe_call (ok__pieces_L T) (hr.mono (by decide)) rfl T.g_pieces T.k_pieces T.b_pieces .nil pass0 (pa_cons (pv 0) (pa_cons (pv 1) pa_nil)))) (blkOk_by (own := [("top", 3), ("bottom", 4), ("first", 5), ("second", 6)]) (N := ["a", "b", "keeps", "top", "bottom", "first", "second"]) (sc := defScope s__combined) (by decide +kernel)) (fun _ _ _ _ _ => by exact (pg_tup rfl (pgs_cons (pg_name (i := 3) sc__combined.nd rfl (Or.inl rfl)) (pgs_cons (pg_name (i := 4) sc__combined.nd rfl (Or.inl rfl)) (pgs_cons (pg_name (i := 5) sc__combined.nd rfl (Or.inl rfl)) (pgs_cons (pg_name (i := 6) sc__combined.nd rfl (Or.inl rfl)) pgs_nil)))))) (fun _ _ _ _ _ => pts_nil) (fun _ _ _ _ _ => by exact (pe_tup (pa_cons (pv 3) (pa_cons (pv 4) (pa_cons (pe_call (ok__combined_spans T) (hr.mono (by decide)) rfl T.g_combined_spans T.k_combined_spans T.b_combined_spans .nil pass0 (pa_cons (pe_call (ok__spans_of T) (hr.mono (by decide)) rfl T.g_spans_of T.k_spans_of T.b_spans_of .nil pass0 (pa_cons (pv 5) pa_nil)) (pa_cons (pe_call (ok__spans_of T) (hr.mono (by decide)) rfl T.g_spans_of T.k_spans_of T.b_spans_of .nil pass0 (pa_cons (pv 6) pa_nil)) (pa_cons (pv 2) pa_nil)))) pa_nil)))))) pa_nil)))), ?_⟩
    refine ⟨_, rfl, _, rfl, Band, bLo, bHi, bandD, Ra, Rb, pa, pb, xa, xb, U, rfl, row_band, sU, hpa, hxa, hpb, hxb, oa.rows, ob.rows, by have := oa.few; have := ob.few; omega, pr.1, fun vp U2 H2 es x2 hel hep hem dvp => ?_⟩
    obtain ⟨pp, ps, rfl, hpp, hps⟩ := dp_list dvp
    have lps : ps.length = (segs es).length := by rw [dpall_len hps, List.length_map]
    have lsg : (segs es).length < 64 := by rw [segs_len]; omega
    refine ⟨pp, rfl, ⟨_, x2.vh.seq hpp⟩, fun D hD => ?_⟩
    refine lc_dp (walk_list (K := K) (a := pp) (xs := ps)) (K := K) (V0 := U2) (H0 := H2) (fun i => ((segs es)[i]?).map fun s => bandD (cmbB op Ra Rb s)) _ rfl x2.vh hD (by omega) (fun H' s => s.seq (x2.vh.seq hpp)) (fun i x H H' y => y.1) ?_ ?_
    · rintro j v V3 H3 hj x3 ⟨_, hv⟩ Qy Qn hy _
      obtain ⟨d, hd, dv⟩ := dpall_get hps hv
      rw [List.getElem?_map] at hd
      obtain ⟨⟨tp, bt⟩, hsg, rfl⟩ := Option.map_eq_some_iff.mp hd
      obtain ⟨pt, ws, rfl, qt, rt⟩ := dp_tuple dv
      cases rt with | cons r1 rt => cases rt with | cons r2 rt => cases rt with | cons r3 rt => cases rt with | cons r4 rt =>
      cases rt; cases r1; cases r2
      rename_i v1 v2
      refine ⟨pt, _, rfl, x3.hh.sqt (x2.vh.sqt qt), rfl, _, _, rfl, _, _, rfl, _, _, rfl, _, _, rfl, rfl, rfl, ?_⟩
      refine ⟨_, rfl, _, rfl, _, rfl, v1, rowAt bLo bHi Ra tp, V3, rfl, x3.vh, r3.to x3.vv, fun p1 y1 V4 H4 x4 s4 d4 => ?_⟩
      refine ⟨_, rfl, v2, rowAt bLo bHi Rb tp, V4, rfl, x4.vh, (r4.to x3.vv).to x4.vv, fun p2 y2 V5 H5 x5 s5 d5 => ?_⟩
      have ka := oa.at_ tp
      have kb := ob.at_ tp
      refine ⟨_, rfl, op, spansOf (rowAt bLo bHi Ra tp), spansOf (rowAt bLo bHi Rb tp), p1, p2, f, y1, y2, V5, rfl, hk, x5.vh, x5.vv.sqt s4, d4.to x5.vv, s5, d5, ka.1, kb.1, by omega, pr.2 tp, fun v6 V6 H6 es6 x6 hp6 hm6 d6 => ?_⟩
      have e6 := es_eq hp6 hm6
      subst e6
      refine ⟨len_line (by show 3 ≤ 100000; decide), fun p7 h7 => ?_⟩
      have x7 := (x4.trans x5).trans (x6.trans (Ext.new (o := .tup [.int tp, .int bt, v6]) x6.vh h7))
      obtain ⟨p6, z6, rfl, q6, w6⟩ := dp_tuple d6
      have sn := same_upd (o := .tup [.int tp, .int bt, .ref p6]) (none_of_same x6.vh h7)
      exact hy (bandD (cmbB op Ra Rb (tp, bt))) _ _ _ (by rw [hsg]; rfl) x7 (mk_band (b := cmbB op Ra Rb (tp, bt)) (SqT.of upd_same) (sn.sqt q6) (w6.to sn))
    · rintro U7 H7 zs x7 _ _ d7
      rw [lps, fm_map] at d7
      have e0 := es_eq hep hem
      subst e0
      refine ⟨(segs (esOf (edgeL bLo bHi Ra Rb))).map (cmbB op Ra Rb), _, U7, rfl, x7.vh, by unfold regD; rw [List.map_map]; exact d7, by rw [List.length_map]; omega, fun v8 U8 H8 x8 d8 => ?_⟩
      exact q _ _ _ ((x2.trans x7).trans x8) d8
/-! ### the squares of two regions together -/
theorem any_filter' {α : Type} (p c : α → Bool) : ∀ l : List α, (l.filter p).any c = l.any fun z => p z && c z
  | [] => rfl
  | a :: t => by
    by_cases h : p a = true
    · rw [List.filter_cons_of_pos h, List.any_cons, List.any_cons, any_filter' p c t, h, Bool.true_and]
    · rw [List.filter_cons_of_neg h, List.any_cons, any_filter' p c t]
      rw [Bool.not_eq_true] at h
      rw [h, Bool.false_and, Bool.false_or]
theorem seg_any {es : List Int} {x : Int} {g : Int → Bool} {W : Bool} (h1 : ∀ s ∈ segs es, s.1 ≤ x → x < s.2 → g s.1 = W) (h2 : (∀ s ∈ segs es, ¬ (s.1 ≤ x ∧ x < s.2)) → W = false) :
    (segs es).any (fun s => decide (s.1 ≤ x ∧ x < s.2) && g s.1) = W := by
  by_cases c : ∃ s ∈ segs es, s.1 ≤ x ∧ x < s.2
  · obtain ⟨s, hs, c1, c2⟩ := c
    cases hW : W with
    | true => exact List.any_eq_true.mpr ⟨s, hs, by rw [decide_eq_true ⟨c1, c2⟩, h1 s hs c1 c2, hW]; rfl⟩
    | false =>
      refine List.any_eq_false.mpr fun t ht => ?_
      by_cases d : t.1 ≤ x ∧ x < t.2
      · rw [decide_eq_true d, h1 t ht d.1 d.2, hW]; decide
      · rw [decide_eq_false d]; simp
  · have c' : ∀ s ∈ segs es, ¬ (s.1 ≤ x ∧ x < s.2) := fun s hs z => c ⟨s, hs, z⟩
    rw [h2 c']
    refine List.any_eq_false.mpr fun t ht => ?_
    rw [decide_eq_false (c' t ht)]; simp
theorem isSome_row {r : Type} {lo hi : r → Int} (rows : List r) (x : Int) : (rowAt lo hi rows x).isSome = rows.any fun q => decide (lo q ≤ x ∧ x < hi q) := by
  unfold rowAt
  induction rows with
  | nil => rfl
  | cons q t ih =>
    rw [List.find?_cons, List.any_cons]
    cases decide (lo q ≤ x ∧ x < hi q) with
    | true => rfl
    | false => simpa using ih
theorem edge_in {r : Type} {lo hi : r → Int} {Aa Bb : List r} : (∀ q ∈ Aa, lo q ∈ esOf (edgeL lo hi Aa Bb) ∧ hi q ∈ esOf (edgeL lo hi Aa Bb)) ∧ (∀ q ∈ Bb, lo q ∈ esOf (edgeL lo hi Aa Bb) ∧ hi q ∈ esOf (edgeL lo hi Aa Bb)) := by
  simp only [esOf_mem]
  unfold edgeL
  refine ⟨fun q hq => ⟨?_, ?_⟩, fun q hq => ⟨?_, ?_⟩⟩
  · exact List.mem_append_left _ (List.mem_append_left _ (List.mem_append_left _ (List.mem_map_of_mem hq)))
  · exact List.mem_append_left _ (List.mem_append_left _ (List.mem_append_right _ (List.mem_map_of_mem hq)))
  · exact List.mem_append_left _ (List.mem_append_right _ (List.mem_map_of_mem hq))
  · exact List.mem_append_right _ (List.mem_map_of_mem hq)
theorem segs_pw : ∀ {es : List Int}, es.Pairwise (· < ·) → (segs es).Pairwise fun s t => s.2 ≤ t.1
  | [], _ => List.Pairwise.nil
  | [a], _ => List.Pairwise.nil
  | a :: c :: t, hp => by
    rw [segs_cons]
    have hp2 := List.pairwise_cons.mp hp
    refine List.pairwise_cons.mpr ⟨fun s hs => ?_, segs_pw hp2.2⟩
    obtain ⟨_, _, m, _⟩ := seg_mem hp2.2 (b := s.1) (e := s.2) hs
    rcases List.mem_cons.mp m with e | e
    · rw [e]; exact Int.le_refl _
    · exact Int.le_of_lt ((List.pairwise_cons.mp hp2.2).1 _ e)
theorem segs_rows {es : List Int} (hp : es.Pairwise (· < ·)) : Rows (r := Int × Int) Prod.fst Prod.snd (segs es) := ⟨fun s hs => (seg_mem hp (b := s.1) (e := s.2) hs).1, segs_pw hp⟩
theorem Rows.filter {r : Type} {lo hi : r → Int} {l : List r} (R : Rows lo hi l) (p : r → Bool) : Rows lo hi (l.filter p) := ⟨fun q hq => R.pos q ((List.mem_filter.mp hq).1), R.ord.filter p⟩
theorem cmbS_rows (op : Bool → Bool → Bool) (a b : List Span) : Rows Prod.fst Prod.snd (cmbS op a b) ∧ ∀ z ∈ cmbS op a b, z.1 ∈ edgeL Prod.fst Prod.snd a b ∧ z.2 ∈ edgeL Prod.fst Prod.snd a b := by
  have hp := esOf_pw (edgeL Prod.fst Prod.snd a b)
  have R : Rows (r := Span) Prod.fst Prod.snd (keptS op a b (segs (esOf (edgeL Prod.fst Prod.snd a b)))) := (segs_rows hp).filter _
  obtain ⟨h1, h2⟩ := merge_rows spC spJ (lo := Prod.fst) (hi := Prod.snd) (fun _ _ => rfl) (fun _ _ => rfl) _ _ rfl R
  refine ⟨h1, fun z hz => ?_⟩
  obtain ⟨p, hp1, q, hq1, e1, e2⟩ := h2 z hz
  have m1 := seg_mem hp (b := p.1) (e := p.2) ((List.mem_filter.mp hp1).1)
  have m2 := seg_mem hp (b := q.1) (e := q.2) ((List.mem_filter.mp hq1).1)
  exact ⟨by rw [e1]; exact (esOf_mem _ _).mp m1.2.2.1, by rw [e2]; exact (esOf_mem _ _).mp m2.2.2.2⟩
theorem cmbS_in (op : Bool → Bool → Bool) (h0 : op false false = false) (a b : List Span) (x : Int) : inS (cmbS op a b) x = op (inS a x) (inS b x) := by
  have hp := esOf_pw (edgeL Prod.fst Prod.snd a b)
  have he := edge_in (lo := Prod.fst) (hi := Prod.snd) (Aa := a) (Bb := b)
  have ha : inS a x = (rowAt Prod.fst Prod.snd a x).isSome := (isSome_row a x).symm
  have hb : inS b x = (rowAt Prod.fst Prod.snd b x).isSome := (isSome_row b x).symm
  have R : Rows (r := Span) Prod.fst Prod.snd (keptS op a b (segs (esOf (edgeL Prod.fst Prod.snd a b)))) := (segs_rows hp).filter _
  have m := (merge_any spC spJ (fun s : Span => decide (s.1 ≤ x ∧ x < s.2)) (fun s => s.1 < s.2) (fun p q hp hq hc => by
    have hc' : p.2 = q.1 := of_decide_eq_true hc
    refine ⟨by show p.1 < q.2; omega, ?_⟩
    show decide (p.1 ≤ x ∧ x < q.2) = (decide (p.1 ≤ x ∧ x < p.2) || decide (q.1 ≤ x ∧ x < q.2))
    rw [← Bool.decide_or]
    congr 1
    refine propext ⟨fun h => ?_, fun h => ?_⟩ <;> omega) _ _ rfl R.pos).2
  show (merge spC spJ _).any _ = _
  rw [m]
  unfold keptS
  rw [any_filter', ha, hb]
  rw [show (fun z : Int × Int => (op (rowAt Prod.fst Prod.snd a z.1).isSome (rowAt Prod.fst Prod.snd b z.1).isSome && decide (z.1 ≤ x ∧ x < z.2))) = fun z => decide (z.1 ≤ x ∧ x < z.2) && op (rowAt Prod.fst Prod.snd a z.1).isSome (rowAt Prod.fst Prod.snd b z.1).isSome from funext fun z => Bool.and_comm _ _]
  refine seg_any (g := fun p => op (rowAt Prod.fst Prod.snd a p).isSome (rowAt Prod.fst Prod.snd b p).isSome) (fun s hs c1 c2 => ?_) fun c => ?_
  · show op _ _ = _
    rw [rowAt_seg hp he.1 hs c1 c2, rowAt_seg hp he.2 hs c1 c2]
  · rw [rowAt_off hp he.1 c, rowAt_off hp he.2 c]; exact h0
theorem hasSq_row (R : List Band) (x y : Int) : hasSq R x y = inS (spansOf (rowAt bLo bHi R y)) x := by
  unfold rowAt
  induction R with
  | nil => rfl
  | cons b t ih =>
    rw [List.find?_cons]
    unfold hasSq
    by_cases c : b.1 ≤ y ∧ y < b.2.1
    · rw [if_pos c, decide_eq_true (show bLo b ≤ y ∧ y < bHi b from c)]; rfl
    · rw [if_neg c, decide_eq_false (show ¬ (bLo b ≤ y ∧ y < bHi b) from c)]; exact ih
def covB (x y : Int) (b : Band) : Bool := decide (b.1 ≤ y ∧ y < b.2.1) && inS b.2.2 x
theorem hasSq_any {R : List Band} (h : Rows bLo bHi R) (x y : Int) : hasSq R x y = R.any (covB x y) := by
  induction R with
  | nil => rfl
  | cons b t ih =>
    have ht : Rows bLo bHi t := ⟨fun q hq => h.pos q (List.mem_cons_of_mem _ hq), (List.pairwise_cons.mp h.ord).2⟩
    rw [List.any_cons]
    unfold hasSq
    by_cases c : b.1 ≤ y ∧ y < b.2.1
    · rw [if_pos c]
      have off : t.any (covB x y) = false := by
        refine List.any_eq_false.mpr fun q hq => ?_
        have o : b.2.1 ≤ q.1 := (List.pairwise_cons.mp h.ord).1 q hq
        unfold covB
        rw [decide_eq_false (fun z => by omega)]; simp
      rw [off, Bool.or_false]
      unfold covB
      rw [decide_eq_true c, Bool.true_and]; rfl
    · rw [if_neg c, ih ht]
      unfold covB
      rw [decide_eq_false c, Bool.false_and, Bool.false_or]
theorem merge_pay {e β : Type} (cond : e → e → Bool) (join : e → e → e) (f : e → β) (hf : ∀ p q, f (join p q) = f q) : ∀ (n : Nat) (qs : List e), qs.length = n → ∀ z ∈ merge cond join qs, ∃ q ∈ qs, f z = f q
  | 0, qs, h => by cases List.eq_nil_of_length_eq_zero h; intro z hz; cases hz
  | n + 1, qs, h => by
    rcases last_cases qs with rfl | ⟨a, q, rfl⟩
    · cases h
    have ih := merge_pay cond join f hf n a (by simpa using h)
    rw [merge_snoc]
    generalize merge cond join a = m at ih
    have mq : q ∈ a ++ [q] := List.mem_append_right _ List.mem_cons_self
    intro z hz
    rcases last_cases m with rfl | ⟨b, p, rfl⟩
    · cases List.mem_singleton.mp hz; exact ⟨q, mq, rfl⟩
    rw [mstep_last] at hz
    split at hz
    · rcases List.mem_append.mp hz with hz | hz
      · obtain ⟨q', h1, h2⟩ := ih z (List.mem_append_left _ hz)
        exact ⟨q', List.mem_append_left _ h1, h2⟩
      · cases List.mem_singleton.mp hz; exact ⟨q, mq, hf p q⟩
    · rcases List.mem_append.mp hz with hz | hz
      · obtain ⟨q', h1, h2⟩ := ih z hz
        exact ⟨q', List.mem_append_left _ h1, h2⟩
      · cases List.mem_singleton.mp hz; exact ⟨q, mq, rfl⟩
theorem cmbB_rows (op : Bool → Bool → Bool) (A B : List Band) : Rows bLo bHi ((segs (esOf (edgeL bLo bHi A B))).map (cmbB op A B)) := by
  have R := segs_rows (esOf_pw (edgeL bLo bHi A B))
  refine ⟨fun q hq => ?_, List.pairwise_map.mpr R.ord⟩
  obtain ⟨s, hs, rfl⟩ := List.mem_map.mp hq
  exact R.pos s hs
theorem cmbR_rows (op : Bool → Bool → Bool) (A B : List Band) : Rows bLo bHi (cmbR op A B) ∧ (∀ z ∈ cmbR op A B, (z.1 ∈ edgeL bLo bHi A B ∧ z.2.1 ∈ edgeL bLo bHi A B) ∧ ∃ p, z.2.2 = cmbS op (spansOf (rowAt bLo bHi A p)) (spansOf (rowAt bLo bHi B p))) := by
  have hp := esOf_pw (edgeL bLo bHi A B)
  have R := (cmbB_rows op A B).filter fun b => !b.2.2.isEmpty
  obtain ⟨h1, h2⟩ := merge_rows bdC bdJ (lo := bLo) (hi := bHi) (fun _ _ => rfl) (fun _ _ => rfl) _ _ rfl R
  have mem : ∀ q ∈ ((segs (esOf (edgeL bLo bHi A B))).map (cmbB op A B)).filter (fun b => !b.2.2.isEmpty), ∃ s ∈ segs (esOf (edgeL bLo bHi A B)), q = cmbB op A B s := fun q hq => by
    obtain ⟨s, hs, e⟩ := List.mem_map.mp ((List.mem_filter.mp hq).1)
    exact ⟨s, hs, e.symm⟩
  refine ⟨h1, fun z hz => ⟨?_, ?_⟩⟩
  · obtain ⟨p, hp1, q, hq1, e1, e2⟩ := h2 z hz
    obtain ⟨s, hs, rfl⟩ := mem p hp1
    obtain ⟨t, ht, rfl⟩ := mem q hq1
    have m1 := seg_mem hp (b := s.1) (e := s.2) hs
    have m2 := seg_mem hp (b := t.1) (e := t.2) ht
    refine ⟨?_, ?_⟩
    · show bLo z ∈ _; rw [e1]; exact (esOf_mem _ _).mp m1.2.2.1
    · show bHi z ∈ _; rw [e2]; exact (esOf_mem _ _).mp m2.2.2.2
  · obtain ⟨q, hq, e⟩ := merge_pay bdC bdJ (fun b : Band => b.2.2) (fun _ _ => rfl) _ _ rfl z hz
    obtain ⟨s, hs, rfl⟩ := mem q hq
    exact ⟨s.1, e⟩
theorem cmbR_sq (op : Bool → Bool → Bool) (h0 : op false false = false) (A B : List Band) (x y : Int) : hasSq (cmbR op A B) x y = op (hasSq A x y) (hasSq B x y) := by
  have hp := esOf_pw (edgeL bLo bHi A B)
  have he := edge_in (lo := bLo) (hi := bHi) (Aa := A) (Bb := B)
  rw [hasSq_any (cmbR_rows op A B).1, hasSq_row A, hasSq_row B]
  have R := (cmbB_rows op A B).filter fun b => !b.2.2.isEmpty
  have m := (merge_any bdC bdJ (covB x y) (fun b => b.1 < b.2.1) (fun p q hp hq hc => by
    unfold bdC at hc
    rw [Bool.and_eq_true, decide_eq_true_eq, decide_eq_true_eq] at hc
    refine ⟨by show p.1 < q.2.1; omega, ?_⟩
    show (decide (p.1 ≤ y ∧ y < q.2.1) && inS q.2.2 x) = ((decide (p.1 ≤ y ∧ y < p.2.1) && inS p.2.2 x) || (decide (q.1 ≤ y ∧ y < q.2.1) && inS q.2.2 x))
    rw [hc.2, ← Bool.and_or_distrib_right, ← Bool.decide_or]
    congr 2
    refine propext ⟨fun h => ?_, fun h => ?_⟩ <;> omega) _ _ rfl R.pos).2
  show (merge bdC bdJ _).any _ = _
  rw [m, any_filter', List.any_map]
  have e : ((fun z : Band => !z.2.2.isEmpty && covB x y z) ∘ cmbB op A B) = fun s : Int × Int => decide (s.1 ≤ y ∧ y < s.2) && op (inS (spansOf (rowAt bLo bHi A s.1)) x) (inS (spansOf (rowAt bLo bHi B s.1)) x) := by
    funext s
    show (!(cmbB op A B s).2.2.isEmpty && (decide (s.1 ≤ y ∧ y < s.2) && inS (cmbB op A B s).2.2 x)) = _
    have ei : inS (cmbB op A B s).2.2 x = op (inS (spansOf (rowAt bLo bHi A s.1)) x) (inS (spansOf (rowAt bLo bHi B s.1)) x) := cmbS_in op h0 _ _ x
    rw [← ei]
    generalize (cmbB op A B s).2.2 = l
    cases l with
    | nil => simp [inS]
    | cons a t => rfl
  rw [e]
  refine seg_any (g := fun p => op (inS (spansOf (rowAt bLo bHi A p)) x) (inS (spansOf (rowAt bLo bHi B p)) x)) (fun s hs c1 c2 => ?_) fun c => ?_
  · show op _ _ = _
    rw [rowAt_seg hp he.1 hs c1 c2, rowAt_seg hp he.2 hs c1 c2]
  · rw [rowAt_off hp he.1 c, rowAt_off hp he.2 c]; exact h0
/-! ### what merging leaves does not touch -/
def Ch {e : Type} (cond : e → e → Bool) (l : List e) : Prop := ∀ (i : Nat) (p q : e), l[i]? = some p → l[i + 1]? = some q → cond p q = false
theorem Ch.snoc {e : Type} {cond : e → e → Bool} {m : List e} {q : e} (h : Ch cond m) (hl : ∀ a p, m = a ++ [p] → cond p q = false) : Ch cond (m ++ [q]) := by
  intro i p z hp hz
  by_cases c : i + 1 < m.length
  · rw [List.getElem?_append_left (by omega)] at hp
    rw [List.getElem?_append_left c] at hz
    exact h i p z hp hz
  · have hb : i + 1 < (m ++ [q]).length := (List.getElem?_eq_some_iff.mp hz).1
    rw [List.length_append] at hb
    have hb' : i + 1 < m.length + 1 := hb
    have e1 : i + 1 = m.length := by omega
    rw [e1, List.getElem?_append_right (Nat.le_refl _), Nat.sub_self] at hz
    cases hz
    rcases last_cases m with rfl | ⟨a, p', rfl⟩
    · simp at e1
    · rw [List.length_append] at e1
      have e2 : i = a.length := by simpa using e1
      rw [List.getElem?_append_left (by rw [List.length_append]; simp; omega), e2, List.getElem?_append_right (Nat.le_refl _), Nat.sub_self] at hp
      cases hp
      exact hl a _ rfl
theorem Ch.init {e : Type} {cond : e → e → Bool} {m : List e} {q : e} (h : Ch cond (m ++ [q])) : Ch cond m ∧ ∀ a p, m = a ++ [p] → cond p q = false := by
  refine ⟨fun i p z hp hz => ?_, fun a p e => ?_⟩
  · have h1 := (List.getElem?_eq_some_iff.mp hp).1
    have h2 := (List.getElem?_eq_some_iff.mp hz).1
    exact h i p z (by rw [List.getElem?_append_left h1]; exact hp) (by rw [List.getElem?_append_left h2]; exact hz)
  · subst e
    refine h a.length p q ?_ ?_
    · rw [List.getElem?_append_left (by rw [List.length_append]; simp), List.getElem?_append_right (Nat.le_refl _), Nat.sub_self]; rfl
    · rw [List.getElem?_append_right (by rw [List.length_append]; simp)]
      simp
theorem merge_chain {e : Type} (cond : e → e → Bool) (join : e → e → e) (hc : ∀ r p q, cond p q = true → cond r (join p q) = cond r p) :
    ∀ (n : Nat) (qs : List e), qs.length = n → Ch cond (merge cond join qs)
  | 0, qs, h => by cases List.eq_nil_of_length_eq_zero h; intro i p q hp; cases hp
  | n + 1, qs, h => by
    rcases last_cases qs with rfl | ⟨a, q, rfl⟩
    · cases h
    have ih := merge_chain cond join hc n a (by simpa using h)
    rw [merge_snoc]
    generalize merge cond join a = m at ih
    rcases last_cases m with rfl | ⟨b, p, rfl⟩
    · intro i p z hp hz
      have this : i + 1 < 1 := (List.getElem?_eq_some_iff.mp hz).1
      omega
    rw [mstep_last]
    obtain ⟨i1, i2⟩ := ih.init
    by_cases c : cond p q = true
    · rw [if_pos c]
      exact i1.snoc fun x y e => by rw [hc y p q c]; exact i2 x y e
    · rw [if_neg c]
      refine ih.snoc fun x y e => ?_
      have e2 := congrArg List.getLast? e
      simp at e2
      subst e2
      simpa using c
theorem cmbS_chain (op : Bool → Bool → Bool) (a b : List Span) : Ch spC (cmbS op a b) :=
  merge_chain spC spJ (fun _ _ _ _ => rfl) _ _ rfl
theorem cmbR_chain (op : Bool → Bool → Bool) (A B : List Band) : Ch bdC (cmbR op A B) :=
  merge_chain bdC bdJ (fun r p q h => by
    unfold bdC at h ⊢
    rw [Bool.and_eq_true, decide_eq_true_eq, decide_eq_true_eq] at h
    show (decide (r.2.1 = p.1) && decide (r.2.2 = q.2.2)) = (decide (r.2.1 = p.1) && decide (r.2.2 = p.2.2))
    rw [h.2]) _ _ rfl
theorem gap {l : List Span} (R : Rows Prod.fst Prod.snd l) (h : Ch spC l) : l.Pairwise fun s t => s.2 < t.1 := by
  have ord := List.pairwise_iff_getElem.mp R.ord
  refine List.pairwise_iff_getElem.mpr fun i j hi hj hij => ?_
  have hi1 : i + 1 < l.length := by omega
  have o1 : l[i].2 ≤ l[i + 1].1 := ord i (i + 1) hi hi1 (by omega)
  have c : spC l[i] l[i + 1] = false := h i _ _ (List.getElem?_eq_getElem hi) (List.getElem?_eq_getElem hi1)
  have c' : ¬ l[i].2 = l[i + 1].1 := of_decide_eq_false c
  by_cases e : i + 1 = j
  · subst e; omega
  · have o2 : l[i + 1].2 ≤ l[j].1 := ord (i + 1) j hi1 hj (by omega)
    have p : l[i + 1].1 < l[i + 1].2 := R.pos _ (List.getElem_mem hi1)
    omega
/-! ### the one form is one: the same squares, the same region -/
structure Gap (l : List Span) : Prop where
  pos : ∀ s ∈ l, s.1 < s.2
  gap : l.Pairwise fun s t => s.2 < t.1
theorem Gap.tail {s : Span} {l : List Span} (h : Gap (s :: l)) : Gap l := ⟨fun q hq => h.pos q (List.mem_cons_of_mem _ hq), (List.pairwise_cons.mp h.gap).2⟩
theorem inS_ex {l : List Span} {x : Int} : inS l x = true ↔ ∃ s ∈ l, s.1 ≤ x ∧ x < s.2 := by
  unfold inS
  rw [List.any_eq_true]
  exact exists_congr fun s => and_congr_right fun _ => decide_eq_true_iff
theorem Gap.first {s : Span} {l : List Span} (h : Gap (s :: l)) {x : Int} (hx : inS (s :: l) x = true) : s.1 ≤ x := by
  obtain ⟨q, hq, h1, _⟩ := inS_ex.mp hx
  rcases List.mem_cons.mp hq with rfl | hq
  · exact h1
  · have := (List.pairwise_cons.mp h.gap).1 q hq
    have := h.pos s List.mem_cons_self
    omega
theorem Gap.end_ {s : Span} {l : List Span} (h : Gap (s :: l)) : inS (s :: l) s.2 = false := by
  rw [← Bool.not_eq_true]
  intro hx
  obtain ⟨q, hq, h1, h2⟩ := inS_ex.mp hx
  rcases List.mem_cons.mp hq with rfl | hq
  · omega
  · have := (List.pairwise_cons.mp h.gap).1 q hq
    omega
theorem Gap.in_ {s : Span} {l : List Span} {x : Int} (h1 : s.1 ≤ x) (h2 : x < s.2) : inS (s :: l) x = true := inS_ex.mpr ⟨s, List.mem_cons_self, h1, h2⟩
theorem Gap.rest {s : Span} {l : List Span} (h : Gap (s :: l)) (x : Int) : inS l x = (inS (s :: l) x && decide (s.2 ≤ x)) := by
  by_cases c : s.2 ≤ x
  · rw [decide_eq_true c, Bool.and_true]
    show _ = (decide (s.1 ≤ x ∧ x < s.2) || inS l x)
    rw [decide_eq_false (fun z => by omega), Bool.false_or]
  · rw [decide_eq_false c, Bool.and_false, ← Bool.not_eq_true]
    intro hx
    obtain ⟨q, hq, h1, _⟩ := inS_ex.mp hx
    have := (List.pairwise_cons.mp h.gap).1 q hq
    omega
theorem spans_eq : ∀ {l m : List Span}, Gap l → Gap m → (∀ x, inS l x = inS m x) → l = m
  | [], [], _, _, _ => rfl
  | [], t :: m, _, hm, e => by
    have := e t.1
    rw [Gap.in_ (Int.le_refl _) (hm.pos t List.mem_cons_self)] at this
    cases this
  | s :: l, [], hl, _, e => by
    have := e s.1
    rw [Gap.in_ (Int.le_refl _) (hl.pos s List.mem_cons_self)] at this
    cases this
  | s :: l, t :: m, hl, hm, e => by
    have ps := hl.pos s List.mem_cons_self
    have pt := hm.pos t List.mem_cons_self
    have a1 : t.1 ≤ s.1 := hm.first (by rw [← e]; exact Gap.in_ (Int.le_refl _) ps)
    have a2 : s.1 ≤ t.1 := hl.first (by rw [e]; exact Gap.in_ (Int.le_refl _) pt)
    have e1 : s.1 = t.1 := by omega
    have e2 : s.2 = t.2 := by
      rcases Int.lt_trichotomy s.2 t.2 with c | c | c
      · have h1 := hl.end_
        rw [e, Gap.in_ (by omega) c] at h1
        cases h1
      · exact c
      · have h1 := hm.end_
        rw [← e, Gap.in_ (by omega) c] at h1
        cases h1
    have est : s = t := Prod.ext e1 e2
    subst est
    rw [spans_eq hl.tail hm.tail fun x => by rw [hl.rest, hm.rest, e]]
/-- the spans of a row -/
def spAt (R : List Band) (y : Int) : List Span := spansOf (rowAt bLo bHi R y)
structure CanU (R : List Band) : Prop where
  rows : Rows bLo bHi R
  gap : ∀ b ∈ R, Gap b.2.2
  ch : Ch bdC R
  ne : ∀ b ∈ R, b.2.2 ≠ []
theorem CanU.tail {b : Band} {R : List Band} (h : CanU (b :: R)) : CanU R :=
  ⟨⟨fun q hq => h.rows.pos q (List.mem_cons_of_mem _ hq), (List.pairwise_cons.mp h.rows.ord).2⟩, fun q hq => h.gap q (List.mem_cons_of_mem _ hq),
    fun i p q hp hq => h.ch (i + 1) p q (by rw [List.getElem?_cons_succ]; exact hp) (by rw [List.getElem?_cons_succ]; exact hq), fun q hq => h.ne q (List.mem_cons_of_mem _ hq)⟩
theorem spAt_cons (b : Band) (R : List Band) (y : Int) : spAt (b :: R) y = if b.1 ≤ y ∧ y < b.2.1 then b.2.2 else spAt R y := by
  unfold spAt rowAt
  rw [List.find?_cons]
  by_cases c : b.1 ≤ y ∧ y < b.2.1
  · rw [if_pos c, decide_eq_true (show bLo b ≤ y ∧ y < bHi b from c)]; rfl
  · rw [if_neg c, decide_eq_false (show ¬ (bLo b ≤ y ∧ y < bHi b) from c)]
theorem spAt_mem {R : List Band} {y : Int} (h : spAt R y ≠ []) : ∃ b ∈ R, b.1 ≤ y ∧ y < b.2.1 ∧ spAt R y = b.2.2 := by
  induction R with
  | nil => exact absurd rfl h
  | cons b t ih =>
    rw [spAt_cons] at h ⊢
    by_cases c : b.1 ≤ y ∧ y < b.2.1
    · exact ⟨b, List.mem_cons_self, c.1, c.2, by rw [if_pos c]⟩
    · rw [if_neg c] at h ⊢
      obtain ⟨q, hq, r⟩ := ih h
      exact ⟨q, List.mem_cons_of_mem _ hq, r⟩
theorem CanU.gapAt {R : List Band} (h : CanU R) (y : Int) : Gap (spAt R y) := by
  by_cases c : spAt R y = []
  · rw [c]; exact ⟨fun s hs => (by cases hs), List.Pairwise.nil⟩
  · obtain ⟨b, hb, _, _, e⟩ := spAt_mem c
    rw [e]; exact h.gap b hb
theorem CanU.first {b : Band} {R : List Band} (h : CanU (b :: R)) {y : Int} (hy : spAt (b :: R) y ≠ []) : b.1 ≤ y := by
  obtain ⟨q, hq, h1, _⟩ := spAt_mem hy
  rcases List.mem_cons.mp hq with rfl | hq
  · exact h1
  · have o : b.2.1 ≤ q.1 := (List.pairwise_cons.mp h.rows.ord).1 q hq
    have p : b.1 < b.2.1 := h.rows.pos b List.mem_cons_self
    omega
theorem CanU.in_ {b : Band} {R : List Band} {y : Int} (h1 : b.1 ≤ y) (h2 : y < b.2.1) : spAt (b :: R) y = b.2.2 := by rw [spAt_cons, if_pos ⟨h1, h2⟩]
/-- behind the last row of a band there are other spans -/
theorem CanU.end_ {b : Band} {R : List Band} (h : CanU (b :: R)) : spAt (b :: R) b.2.1 ≠ b.2.2 := by
  intro e
  have hne : spAt (b :: R) b.2.1 ≠ [] := by rw [e]; exact h.ne b List.mem_cons_self
  obtain ⟨q, hq, h1, h2, e2⟩ := spAt_mem hne
  rcases List.mem_cons.mp hq with rfl | hq
  · omega
  cases R with
  | nil => cases hq
  | cons n t =>
    have o := List.pairwise_cons.mp h.rows.ord
    have on : b.2.1 ≤ n.1 := o.1 n List.mem_cons_self
    have pn : n.1 < n.2.1 := h.rows.pos n (List.mem_cons_of_mem _ List.mem_cons_self)
    have hqn : q = n := by
      rcases List.mem_cons.mp hq with r | hq
      · exact r
      · have o2 : n.2.1 ≤ q.1 := (List.pairwise_cons.mp o.2).1 q hq
        omega
    subst hqn
    have c := h.ch 0 b q rfl rfl
    unfold bdC at c
    rw [decide_eq_true (show b.2.1 = q.1 by omega), Bool.true_and] at c
    exact of_decide_eq_false c (by rw [← e, e2])
theorem CanU.rest {b : Band} {R : List Band} (h : CanU (b :: R)) (y : Int) : spAt R y = if b.2.1 ≤ y then spAt (b :: R) y else [] := by
  by_cases c : b.2.1 ≤ y
  · rw [if_pos c, spAt_cons, if_neg (by omega)]
  · rw [if_neg c]
    by_cases d : spAt R y = []
    · exact d
    · obtain ⟨q, hq, h1, _⟩ := spAt_mem d
      have o : b.2.1 ≤ q.1 := (List.pairwise_cons.mp h.rows.ord).1 q hq
      omega
theorem bands_eq : ∀ {l m : List Band}, CanU l → CanU m → (∀ y, spAt l y = spAt m y) → l = m
  | [], [], _, _, _ => rfl
  | [], t :: m, _, hm, e => by
    have := e t.1
    rw [CanU.in_ (Int.le_refl _) (hm.rows.pos t List.mem_cons_self)] at this
    exact absurd this.symm (hm.ne t List.mem_cons_self)
  | s :: l, [], hl, _, e => by
    have := e s.1
    rw [CanU.in_ (Int.le_refl _) (hl.rows.pos s List.mem_cons_self)] at this
    exact absurd this (hl.ne s List.mem_cons_self)
  | s :: l, t :: m, hl, hm, e => by
    have ps : s.1 < s.2.1 := hl.rows.pos s List.mem_cons_self
    have pt : t.1 < t.2.1 := hm.rows.pos t List.mem_cons_self
    have a1 : t.1 ≤ s.1 := hm.first (by rw [← e, CanU.in_ (Int.le_refl _) ps]; exact hl.ne s List.mem_cons_self)
    have a2 : s.1 ≤ t.1 := hl.first (by rw [e, CanU.in_ (Int.le_refl _) pt]; exact hm.ne t List.mem_cons_self)
    have e1 : s.1 = t.1 := by omega
    have e3 : s.2.2 = t.2.2 := by
      have := e s.1
      rw [CanU.in_ (Int.le_refl _) ps, CanU.in_ (by omega) (by omega)] at this
      exact this
    have e2 : s.2.1 = t.2.1 := by
      rcases Int.lt_trichotomy s.2.1 t.2.1 with c | c | c
      · exact absurd (by rw [e, CanU.in_ (by omega) c, e3]) hl.end_
      · exact c
      · exact absurd (by rw [← e, CanU.in_ (by omega) c, e3]) hm.end_
    have est : s = t := Prod.ext e1 (Prod.ext e2 e3)
    subst est
    rw [bands_eq hl.tail hm.tail fun y => by rw [hl.rest, hm.rest, e]]
/-- the same squares, the same region -/
theorem one_form {A B : List Band} (ha : CanU A) (hb : CanU B) (h : ∀ x y, hasSq A x y = hasSq B x y) : A = B :=
  bands_eq ha hb fun y => spans_eq (ha.gapAt y) (hb.gapAt y) fun x => by
    have := h x y
    rw [hasSq_row, hasSq_row] at this
    exact this
theorem Gap.rows {l : List Span} (h : Gap l) : Rows Prod.fst Prod.snd l := ⟨h.pos, h.gap.imp fun {s t} z => by show s.2 ≤ t.1; omega⟩
theorem cmbR_u (op : Bool → Bool → Bool) (A B : List Band) : CanU (cmbR op A B) := by
  refine ⟨(cmbR_rows op A B).1, fun z hz => ?_, cmbR_chain op A B, fun z hz => ?_⟩
  · obtain ⟨_, p, e⟩ := (cmbR_rows op A B).2 z hz
    rw [e]
    exact ⟨(cmbS_rows op _ _).1.pos, My.gap (cmbS_rows op _ _).1 (cmbS_chain _ _ _)⟩
  · obtain ⟨q, hq, e⟩ := merge_pay bdC bdJ (fun b : Band => b.2.2) (fun _ _ => rfl) _ _ rfl z hz
    have hn := (List.mem_filter.mp hq).2
    have e' : z.2.2 = q.2.2 := e
    rw [e']
    intro h0
    rw [h0] at hn
    exact absurd hn (by decide)
/-! the three operations, and boxes -/
structure Box (R : List Band) : Prop where
  bs : ∀ b ∈ R, -1 ≤ b.1 ∧ b.2.1 ≤ 10 ∧ ∀ s ∈ b.2.2, -1 ≤ s.1 ∧ s.2 ≤ 10
  rows : Rows bLo bHi R
  sps : ∀ b ∈ R, Rows Prod.fst Prod.snd b.2.2
  gaps : ∀ b ∈ R, b.2.2.Pairwise fun s t => s.2 < t.1
theorem rows_few : ∀ {r : Type} {lo hi : r → Int} {l : List r} {c : Int}, Rows lo hi l → c ≤ 10 → (∀ q ∈ l, c ≤ lo q ∧ hi q ≤ 10) → (l.length : Int) ≤ 10 - c
  | _, _, _, [], c, _, hc, _ => by show (0 : Int) ≤ 10 - c; omega
  | _, lo, hi, q :: t, c, R, hc, h => by
    have hq := h q List.mem_cons_self
    have p := R.pos q List.mem_cons_self
    have ih := rows_few (l := t) (c := hi q) ⟨fun z hz => R.pos z (List.mem_cons_of_mem _ hz), (List.pairwise_cons.mp R.ord).2⟩ hq.2 fun z hz => ⟨(List.pairwise_cons.mp R.ord).1 z hz, (h z (List.mem_cons_of_mem _ hz)).2⟩
    rw [List.length_cons]
    omega
theorem Box.ok {R : List Band} (h : Box R) : RegOk R := by
  refine ⟨h.rows, h.sps, ?_, fun b hb => ?_, h.gaps⟩
  · have := rows_few (c := -1) h.rows (by decide) fun q hq => ⟨(h.bs q hq).1, (h.bs q hq).2.1⟩
    omega
  · have := rows_few (c := -1) (h.sps b hb) (by decide) fun q hq => (h.bs b hb).2.2 q hq
    omega
theorem Box.cmb {A B : List Band} (op : Bool → Bool → Bool) (ha : Box A) (hb : Box B) : Box (cmbR op A B) := by
  obtain ⟨h1, h2⟩ := cmbR_rows op A B
  have inE : ∀ {R : List Band}, Box R → ∀ b ∈ R, -1 ≤ bLo b ∧ bLo b ≤ 10 ∧ -1 ≤ bHi b ∧ bHi b ≤ 10 := fun hR b hb => by
    have := hR.bs b hb
    have := hR.rows.pos b hb
    have e1 : bLo b = b.1 := rfl
    have e2 : bHi b = b.2.1 := rfl
    omega
  have sp : ∀ {R : List Band}, Box R → ∀ p, ∀ s ∈ spansOf (rowAt bLo bHi R p), -1 ≤ s.1 ∧ s.1 ≤ 10 ∧ -1 ≤ s.2 ∧ s.2 ≤ 10 := fun {R} hR p s hs => by
    cases e : rowAt bLo bHi R p with
    | none => rw [e] at hs; cases hs
    | some b =>
      rw [e] at hs
      have hb : b ∈ R := List.mem_of_find?_eq_some e
      have g := (hR.bs b hb).2.2 s hs
      have g2 := (hR.sps b hb).pos s hs
      omega
  have ed : ∀ k ∈ edgeL bLo bHi A B, -1 ≤ k ∧ k ≤ 10 := fun k hk => by
    unfold edgeL at hk
    simp only [List.mem_append, List.mem_map] at hk
    rcases hk with ((⟨b, h, rfl⟩ | ⟨b, h, rfl⟩) | ⟨b, h, rfl⟩) | ⟨b, h, rfl⟩
    · have := inE ha b h; omega
    · have := inE ha b h; omega
    · have := inE hb b h; omega
    · have := inE hb b h; omega
  refine ⟨fun z hz => ?_, h1, fun z hz => ?_, fun z hz => ((cmbR_u op A B).gap z hz).gap⟩
  · obtain ⟨⟨e1, e2⟩, p, ep⟩ := h2 z hz
    refine ⟨(ed _ e1).1, (ed _ e2).2, fun s hs => ?_⟩
    rw [ep] at hs
    obtain ⟨m1, m2⟩ := (cmbS_rows op _ _).2 s hs
    have es : ∀ k ∈ edgeL Prod.fst Prod.snd (spansOf (rowAt bLo bHi A p)) (spansOf (rowAt bLo bHi B p)), -1 ≤ k ∧ k ≤ 10 := fun k hk => by
      unfold edgeL at hk
      simp only [List.mem_append, List.mem_map] at hk
      rcases hk with ((⟨b, h, rfl⟩ | ⟨b, h, rfl⟩) | ⟨b, h, rfl⟩) | ⟨b, h, rfl⟩
      · have := sp ha p b h; omega
      · have := sp ha p b h; omega
      · have := sp hb p b h; omega
      · have := sp hb p b h; omega
    exact ⟨(es _ m1).1, (es _ m2).2⟩
  · obtain ⟨_, p, ep⟩ := h2 z hz
    rw [ep]
    exact (cmbS_rows op _ _).1
theorem Box.nil : Box [] := ⟨fun b hb => (by cases hb), ⟨fun q hq => (by cases hq), List.Pairwise.nil⟩, fun b hb => (by cases hb), fun b hb => (by cases hb)⟩
theorem Box.rect {x y wd ht : Int} (hx : -1 ≤ x ∧ x + wd ≤ 10) (hy : -1 ≤ y ∧ y + ht ≤ 10) : Box (rectReg x y wd ht) := by
  unfold rectReg
  split
  · exact Box.nil
  · rename_i h
    refine ⟨fun b hb => ?_, ⟨fun q hq => ?_, List.pairwise_singleton _ _⟩, fun b hb => ?_, fun b hb => ?_⟩
    · cases List.mem_singleton.mp hb
      exact ⟨hy.1, hy.2, fun s hs => by cases List.mem_singleton.mp hs; exact hx⟩
    · cases List.mem_singleton.mp hq
      show y < y + ht; omega
    · cases List.mem_singleton.mp hb
      exact ⟨fun q hq => by cases List.mem_singleton.mp hq; show x < x + wd; omega, List.pairwise_singleton _ _⟩
    · cases List.mem_singleton.mp hb
      exact List.pairwise_singleton _ _
theorem Box.edge {A B : List Band} (ha : Box A) (hb : Box B) : (∀ k ∈ edgeL bLo bHi A B, -1 ≤ k ∧ k ≤ 10) ∧ ∀ p, ∀ k ∈ edgeL Prod.fst Prod.snd (spansOf (rowAt bLo bHi A p)) (spansOf (rowAt bLo bHi B p)), -1 ≤ k ∧ k ≤ 10 := by
  have inE : ∀ {R : List Band}, Box R → ∀ b ∈ R, -1 ≤ bLo b ∧ bLo b ≤ 10 ∧ -1 ≤ bHi b ∧ bHi b ≤ 10 := fun hR b hb => by
    have := hR.bs b hb
    have := hR.rows.pos b hb
    have e1 : bLo b = b.1 := rfl
    have e2 : bHi b = b.2.1 := rfl
    omega
  have sp : ∀ {R : List Band}, Box R → ∀ p, ∀ s ∈ spansOf (rowAt bLo bHi R p), -1 ≤ s.1 ∧ s.1 ≤ 10 ∧ -1 ≤ s.2 ∧ s.2 ≤ 10 := fun {R} hR p s hs => by
    cases e : rowAt bLo bHi R p with
    | none => rw [e] at hs; cases hs
    | some b =>
      rw [e] at hs
      have hb : b ∈ R := List.mem_of_find?_eq_some e
      have g := (hR.bs b hb).2.2 s hs
      have g2 := (hR.sps b hb).pos s hs
      omega
  refine ⟨fun k hk => ?_, fun p k hk => ?_⟩
  · unfold edgeL at hk
    simp only [List.mem_append, List.mem_map] at hk
    rcases hk with ((⟨b, h, rfl⟩ | ⟨b, h, rfl⟩) | ⟨b, h, rfl⟩) | ⟨b, h, rfl⟩
    · have := inE ha b h; omega
    · have := inE ha b h; omega
    · have := inE hb b h; omega
    · have := inE hb b h; omega
  · unfold edgeL at hk
    simp only [List.mem_append, List.mem_map] at hk
    rcases hk with ((⟨b, h, rfl⟩ | ⟨b, h, rfl⟩) | ⟨b, h, rfl⟩) | ⟨b, h, rfl⟩
    · have := sp ha p b h; omega
    · have := sp ha p b h; omega
    · have := sp hb p b h; omega
    · have := sp hb p b h; omega
def sides : List Int := (List.range 12).map fun i : Nat => (i : Int) - 1
theorem sides_len : sides.length < 64 := by unfold sides; rw [List.length_map, List.length_range]; decide
theorem in_sides {k : Int} (h : -1 ≤ k ∧ k ≤ 10) : k ∈ sides := List.mem_map.mpr ⟨(k + 1).toNat, List.mem_range.mpr (by omega), by show (((k + 1).toNat : Nat) : Int) - 1 = k; omega⟩
theorem Box.pair {A B : List Band} (ha : Box A) (hb : Box B) : Pair A B :=
  ⟨⟨sides, fun k hk => in_sides ((ha.edge hb).1 k hk), sides_len⟩, fun p => ⟨sides, fun k hk => in_sides ((ha.edge hb).2 p k hk), sides_len⟩⟩
def sp_op2 (op : Bool → Bool → Bool) (K : PySem.W.Frag) : Sp := fun vs H Q _ => ∃ (Ra Rb : List Band) (va vb : V) (U : Hp), vs = [va, vb] ∧ Same U H ∧ Dp K U va (regD Ra) ∧ Dp K U vb (regD Rb) ∧ RegOk Ra ∧ RegOk Rb ∧ Pair Ra Rb ∧
  ∀ v U' H', Ext U H U' H' → Dp K U' v (regD (cmbR op Ra Rb)) → Q v H'
theorem sc_united : FnScope ["a", "b"] ["a", "b"] (defScope s_united) := ⟨rfl, rfl, rfl, by decide +kernel, rfl, by decide +kernel, by decide +kernel⟩
theorem sc_without : FnScope ["a", "b"] ["a", "b"] (defScope s_without) := ⟨rfl, rfl, rfl, by decide +kernel, rfl, by decide +kernel, by decide +kernel⟩
theorem ok_united (T : Txt K mg A) : FnOk P w K mg base CX0 5 A.funited A.dunited ["a", "b"] (sp_op2 or K) := by
  refine T.Funited.ok sc_united (fun vs H Q E h => ?_) (fun cdv Ar outer s H vs Q E hr h => ?_)
  · obtain ⟨_, _, _, _, _, rfl, _⟩ := h
    rfl
  · obtain ⟨Ra, Rb, va, vb, U, rfl, sU, da, db, oa, ob, pr, q⟩ := h
    refine ⟨_, (pss_one (ps_ret (pe_call (ok__combined T) (hr.mono (by decide)) rfl T.g_combined T.k_combined T.b_combined .nil pass0 (pa_cons (pv 0) (pa_cons (pv 1) (pa_cons (pe_glob (v := .ref A.f_either) rfl T.g_either rfl) pa_nil)))))), ?_⟩
    exact ⟨_, rfl, _, rfl, or, Ra, Rb, va, vb, A.f_either, U, rfl, .inl ⟨rfl, rfl⟩, sU, da, db, oa, ob, pr, q⟩
theorem ok_without (T : Txt K mg A) : FnOk P w K mg base CX0 5 A.fwithout A.dwithout ["a", "b"] (sp_op2 (fun a b => a && !b) K) := by
  refine T.Fwithout.ok sc_without (fun vs H Q E h => ?_) (fun cdv Ar outer s H vs Q E hr h => ?_)
  · obtain ⟨_, _, _, _, _, rfl, _⟩ := h
    rfl
  · obtain ⟨Ra, Rb, va, vb, U, rfl, sU, da, db, oa, ob, pr, q⟩ := h
    refine ⟨_, (pss_one (ps_ret (pe_call (ok__combined T) (hr.mono (by decide)) rfl T.g_combined T.k_combined T.b_combined .nil pass0 (pa_cons (pv 0) (pa_cons (pv 1) (pa_cons (pe_glob (v := .ref A.f_first_alone) rfl T.g_first_alone rfl) pa_nil)))))), ?_⟩
    exact ⟨_, rfl, _, rfl, (fun a b => a && !b), Ra, Rb, va, vb, A.f_first_alone, U, rfl, .inr ⟨rfl, rfl⟩, sU, da, db, oa, ob, pr, q⟩
/-! ### the squares that both have: one region's rows against those of the other -/
def mxI (i j : Int) : Int := if j > i then j else i
def mnI (i j : Int) : Int := if j < i then j else i
section
variable {r e : Type} (lo hi : r → Int) (mk : r → r → e)
/-- what a row has to do with another one -/
def meets (s t : r) : Bool := decide (lo s < hi t) && decide (lo t < hi s)
def swRow (b : List r) (s : r) : List e := (b.filter (meets lo hi s)).map (mk s)
def sweep (a b : List r) : List e := a.flatMap (swRow lo hi mk b)
variable {lo hi mk}
theorem mem_sweep {a b : List r} {z : e} : z ∈ sweep lo hi mk a b ↔ ∃ s ∈ a, ∃ t ∈ b, (lo s < hi t ∧ lo t < hi s) ∧ mk s t = z := by
  unfold sweep swRow meets
  simp only [List.mem_flatMap, List.mem_map, List.mem_filter, Bool.and_eq_true, decide_eq_true_eq, and_assoc]
theorem sweep_pw {R : e → e → Prop} {a b : List r} (ha : a.Pairwise fun s s' => ∀ t t', R (mk s t) (mk s' t')) (hb : b.Pairwise fun t t' => ∀ s, R (mk s t) (mk s t')) : (sweep lo hi mk a b).Pairwise R := by
  unfold sweep
  refine List.pairwise_flatMap.mpr ⟨fun s _ => List.pairwise_map.mpr ((hb.filter _).imp fun h => h s), ha.imp fun {s s'} h x hx y hy => ?_⟩
  obtain ⟨t, _, rfl⟩ := List.mem_map.mp hx
  obtain ⟨t', _, rfl⟩ := List.mem_map.mp hy
  exact h t t'
theorem sweep_take {a b : List r} {i : Nat} {s : r} (h : a[i]? = some s) : sweep lo hi mk (a.take (i + 1)) b = sweep lo hi mk (a.take i) b ++ swRow lo hi mk b s := fl_take' _ _ _ _ h
/-- ahead of the first row that ends behind the beginning nothing meets -/
theorem meet_none {b : List r} {s : r} {k : Nat} (h : ∀ (j : Nat) (q : r), j < k → b[j]? = some q → hi q ≤ lo s) : (b.take k).filter (meets lo hi s) = [] := by
  refine List.filter_eq_nil_iff.mpr fun q hq => ?_
  obtain ⟨j, hj, e⟩ := List.mem_iff_getElem.mp hq
  rw [List.length_take] at hj
  have h1 := h j q (by omega) (by rw [List.getElem?_eq_getElem (by omega), ← e, List.getElem_take])
  unfold meets
  rw [decide_eq_false (by omega), Bool.false_and]; decide
theorem meet_end {b : List r} (R : Rows lo hi b) {s : r} {k : Nat} (h : ∀ q, b[k]? = some q → hi s ≤ lo q) : (b.take k).filter (meets lo hi s) = b.filter (meets lo hi s) := by
  have e : b.filter (meets lo hi s) = (b.take k).filter (meets lo hi s) ++ (b.drop k).filter (meets lo hi s) := by rw [← List.filter_append, List.take_append_drop]
  rw [e]
  have z : (b.drop k).filter (meets lo hi s) = [] := by
    refine List.filter_eq_nil_iff.mpr fun q hq => ?_
    obtain ⟨j, hj, e⟩ := List.mem_iff_getElem.mp hq
    rw [List.getElem_drop] at e
    rw [List.length_drop] at hj
    have hk : k < b.length := by omega
    have h0 := h _ (List.getElem?_eq_getElem hk)
    have : lo b[k] ≤ lo q := by
      by_cases c : j = 0
      · subst c; rw [← e]; exact Int.le_refl _
      · have o := (List.pairwise_iff_getElem.mp R.ord) k (k + j) hk (by omega) (by omega)
        have p := R.pos _ (List.getElem_mem hk)
        rw [e] at o
        omega
    unfold meets
    rw [decide_eq_false (show ¬ lo q < hi s by omega), Bool.and_false]; decide
  rw [z, List.append_nil]
theorem meet_step {b : List r} {s t : r} {k : Nat} (h : b[k]? = some t) (h1 : lo s < hi t) (h2 : lo t < hi s) : (b.take (k + 1)).filter (meets lo hi s) = (b.take k).filter (meets lo hi s) ++ [t] := by
  rw [filter_snoc _ h, if_pos]
  unfold meets
  rw [decide_eq_true h1, decide_eq_true h2]; rfl
theorem swRow_len (b : List r) (s : r) (k : Nat) : (((b.take k).filter (meets lo hi s)).map (mk s)).length ≤ b.length := by
  rw [List.length_map]
  have h1 : ((b.take k).filter (meets lo hi s)).length ≤ (b.take k).length := List.length_filter_le _ _
  rw [List.length_take] at h1
  omega
theorem sweep_len (a b : List r) : (sweep lo hi mk a b).length ≤ a.length * b.length := by
  unfold sweep
  induction a with
  | nil => exact Nat.zero_le _
  | cons s t ih =>
    rw [List.flatMap_cons, List.length_append, List.length_cons, Nat.succ_mul]
    have h : (swRow lo hi mk b s).length ≤ b.length := by
      have := swRow_len (mk := mk) (lo := lo) (hi := hi) b s b.length
      rwa [List.take_length] at this
    omega
end
def mkS (s t : Span) : Span := (mxI s.1 t.1, mnI s.2 t.2)
def cmnS (a b : List Span) : List Span := sweep Prod.fst Prod.snd mkS a b
def mkB (s t : Band) : Band := (mxI s.1 t.1, mnI s.2.1 t.2.1, cmnS s.2.2 t.2.2)
def cmnR (A B : List Band) : List Band := joinM (sweep bLo bHi mkB A B)
theorem cmnS_gap {a b : List Span} (ha : Gap a) (hb : Gap b) : Gap (cmnS a b) := by
  refine ⟨fun z hz => ?_, sweep_pw (ha.gap.imp fun {s s'} h t t' => ?_) (hb.gap.imp fun {t t'} h s => ?_)⟩
  · obtain ⟨s, hs, t, ht, ⟨h1, h2⟩, rfl⟩ := mem_sweep.mp hz
    have p1 := ha.pos s hs
    have p2 := hb.pos t ht
    show mxI s.1 t.1 < mnI s.2 t.2
    unfold mxI mnI
    split <;> split <;> omega
  · show mnI s.2 t.2 < mxI s'.1 t'.1
    unfold mxI mnI
    split <;> split <;> omega
  · show mnI s.2 t.2 < mxI s.1 t'.1
    unfold mxI mnI
    split <;> split <;> omega
theorem cmnS_in {a b : List Span} (ha : Gap a) (hb : Gap b) (x : Int) : inS (cmnS a b) x = (inS a x && inS b x) := by
  refine Bool.eq_iff_iff.mpr ?_
  rw [Bool.and_eq_true, inS_ex, inS_ex, inS_ex]
  constructor
  · rintro ⟨z, hz, h1, h2⟩
    obtain ⟨s, hs, t, ht, _, rfl⟩ := mem_sweep.mp hz
    have h1' : mxI s.1 t.1 ≤ x := h1
    have h2' : x < mnI s.2 t.2 := h2
    unfold mxI at h1'
    unfold mnI at h2'
    refine ⟨⟨s, hs, ?_⟩, ⟨t, ht, ?_⟩⟩ <;> (split at h1' <;> split at h2' <;> omega)
  · rintro ⟨⟨s, hs, h1, h2⟩, ⟨t, ht, h3, h4⟩⟩
    refine ⟨mkS s t, mem_sweep.mpr ⟨s, hs, t, ht, ⟨by omega, by omega⟩, rfl⟩, ?_, ?_⟩
    · show mxI s.1 t.1 ≤ x
      unfold mxI; split <;> omega
    · show x < mnI s.2 t.2
      unfold mnI; split <;> omega
theorem sweepB_rows {A B : List Band} (ha : Rows bLo bHi A) (hb : Rows bLo bHi B) : Rows bLo bHi (sweep bLo bHi mkB A B) := by
  refine ⟨fun z hz => ?_, sweep_pw (ha.ord.imp fun {s s'} h t t' => ?_) (hb.ord.imp fun {t t'} h s => ?_)⟩
  · obtain ⟨s, hs, t, ht, ⟨h1, h2⟩, rfl⟩ := mem_sweep.mp hz
    have p1 := ha.pos s hs
    have p2 := hb.pos t ht
    show mxI s.1 t.1 < mnI s.2.1 t.2.1
    unfold mxI mnI
    split <;> split <;> omega
  · have h' : s.2.1 ≤ s'.1 := h
    show mnI s.2.1 t.2.1 ≤ mxI s'.1 t'.1
    unfold mxI mnI
    split <;> split <;> omega
  · have h' : t.2.1 ≤ t'.1 := h
    show mnI s.2.1 t.2.1 ≤ mxI s.1 t'.1
    unfold mxI mnI
    split <;> split <;> omega
theorem RegOk.gapB {R : List Band} (h : RegOk R) : ∀ b ∈ R, Gap b.2.2 := fun b hb => ⟨(h.sps b hb).pos, h.gaps b hb⟩
theorem cmnR_u {A B : List Band} (ha : RegOk A) (hb : RegOk B) : CanU (cmnR A B) := by
  have R := (sweepB_rows ha.rows hb.rows).filter fun b => !b.2.2.isEmpty
  obtain ⟨h1, h2⟩ := merge_rows bdC bdJ (lo := bLo) (hi := bHi) (fun _ _ => rfl) (fun _ _ => rfl) _ _ rfl R
  have pay : ∀ z ∈ cmnR A B, ∃ q ∈ (sweep bLo bHi mkB A B).filter (fun b => !b.2.2.isEmpty), z.2.2 = q.2.2 := fun z hz => merge_pay bdC bdJ (fun b : Band => b.2.2) (fun _ _ => rfl) _ _ rfl z hz
  refine ⟨h1, fun z hz => ?_, merge_chain bdC bdJ (fun r p q h => by
    unfold bdC at h ⊢
    rw [Bool.and_eq_true, decide_eq_true_eq, decide_eq_true_eq] at h
    show (decide (r.2.1 = p.1) && decide (r.2.2 = q.2.2)) = (decide (r.2.1 = p.1) && decide (r.2.2 = p.2.2))
    rw [h.2]) _ _ rfl, fun z hz => ?_⟩
  · obtain ⟨q, hq, e⟩ := pay z hz
    obtain ⟨s, hs, t, ht, _, rfl⟩ := mem_sweep.mp (List.mem_filter.mp hq).1
    rw [e]
    exact cmnS_gap (ha.gapB s hs) (hb.gapB t ht)
  · obtain ⟨q, hq, e⟩ := pay z hz
    have hn := (List.mem_filter.mp hq).2
    rw [e]
    intro h0
    rw [h0] at hn
    exact absurd hn (by decide)
theorem cov_ex {R : List Band} (h : Rows bLo bHi R) (x y : Int) : hasSq R x y = true ↔ ∃ b ∈ R, b.1 ≤ y ∧ y < b.2.1 ∧ inS b.2.2 x = true := by
  rw [hasSq_any h, List.any_eq_true]
  unfold covB
  simp only [Bool.and_eq_true, decide_eq_true_eq, and_assoc]
theorem cmnR_sq {A B : List Band} (ha : RegOk A) (hb : RegOk B) (x y : Int) : hasSq (cmnR A B) x y = (hasSq A x y && hasSq B x y) := by
  have R := (sweepB_rows ha.rows hb.rows).filter fun b => !b.2.2.isEmpty
  have m := (merge_any bdC bdJ (covB x y) (fun b => b.1 < b.2.1) (fun p q hp hq hc => by
    unfold bdC at hc
    rw [Bool.and_eq_true, decide_eq_true_eq, decide_eq_true_eq] at hc
    refine ⟨by show p.1 < q.2.1; omega, ?_⟩
    show (decide (p.1 ≤ y ∧ y < q.2.1) && inS q.2.2 x) = ((decide (p.1 ≤ y ∧ y < p.2.1) && inS p.2.2 x) || (decide (q.1 ≤ y ∧ y < q.2.1) && inS q.2.2 x))
    rw [hc.2, ← Bool.and_or_distrib_right, ← Bool.decide_or]
    congr 2
    refine propext ⟨fun h => ?_, fun h => ?_⟩ <;> omega) _ _ rfl R.pos).2
  rw [hasSq_any (cmnR_u ha hb).rows]
  show (merge bdC bdJ _).any _ = _
  rw [m]
  refine Bool.eq_iff_iff.mpr ?_
  rw [Bool.and_eq_true, cov_ex ha.rows, cov_ex hb.rows, List.any_eq_true]
  unfold covB
  simp only [Bool.and_eq_true, decide_eq_true_eq]
  constructor
  · rintro ⟨z, hz, ⟨h1, h2⟩, h3⟩
    obtain ⟨s, hs, t, ht, _, rfl⟩ := mem_sweep.mp (List.mem_filter.mp hz).1
    have h1' : mxI s.1 t.1 ≤ y := h1
    have h2' : y < mnI s.2.1 t.2.1 := h2
    have h3' : inS (cmnS s.2.2 t.2.2) x = true := h3
    rw [cmnS_in (ha.gapB s hs) (hb.gapB t ht), Bool.and_eq_true] at h3'
    unfold mxI at h1'
    unfold mnI at h2'
    refine ⟨⟨s, hs, ?_, ?_, h3'.1⟩, ⟨t, ht, ?_, ?_, h3'.2⟩⟩ <;> (split at h1' <;> split at h2' <;> omega)
  · rintro ⟨⟨s, hs, h1, h2, h5⟩, ⟨t, ht, h3, h4, h6⟩⟩
    have h7 : inS (cmnS s.2.2 t.2.2) x = true := by rw [cmnS_in (ha.gapB s hs) (hb.gapB t ht), h5, h6]; rfl
    refine ⟨mkB s t, List.mem_filter.mpr ⟨mem_sweep.mpr ⟨s, hs, t, ht, ⟨by show s.1 < t.2.1; omega, by show t.1 < s.2.1; omega⟩, rfl⟩, ?_⟩, ⟨?_, ?_⟩, h7⟩
    · show (!(cmnS s.2.2 t.2.2).isEmpty) = true
      cases e : cmnS s.2.2 t.2.2 with
      | nil => rw [e] at h7; cases h7
      | cons _ _ => rfl
    · show mxI s.1 t.1 ≤ y
      unfold mxI; split <;> omega
    · show y < mnI s.2.1 t.2.1
      unfold mnI; split <;> omega
/-- the same region as by pieces -/
theorem cmnR_eq {A B : List Band} (ha : RegOk A) (hb : RegOk B) : cmnR A B = cmbR and A B :=
  one_form (cmnR_u ha hb) (cmbR_u and A B) fun x y => by rw [cmnR_sq ha hb, cmbR_sq and rfl]
theorem Rows.below {r : Type} {lo hi : r → Int} {a : List r} (R : Rows lo hi a) {i : Nat} {s s' : r} (h : a[i]? = some s) (h' : a[i + 1]? = some s') : lo s ≤ lo s' := by
  obtain ⟨g, e⟩ := List.getElem?_eq_some_iff.mp h
  obtain ⟨g', e'⟩ := List.getElem?_eq_some_iff.mp h'
  have o := (List.pairwise_iff_getElem.mp R.ord) i (i + 1) g g' (by omega)
  have p := R.pos _ (List.getElem_mem g)
  rw [e] at o p
  rw [e'] at o
  omega
theorem sweep_few {r e : Type} {lo hi : r → Int} {mk : r → r → e} {a b : List r} (i k : Nat) {s : r} (ha : a.length < 100) (hb : b.length < 100) : (sweep lo hi mk (a.take i) b ++ ((b.take k).filter (meets lo hi s)).map (mk s)).length < 20000 := by
  have h1 := sweep_len (lo := lo) (hi := hi) (mk := mk) (a.take i) b
  have h2 := swRow_len (lo := lo) (hi := hi) (mk := mk) b s k
  have h3 : (a.take i).length ≤ 100 := by rw [List.length_take]; omega
  have h4 : (a.take i).length * b.length ≤ 100 * 100 := Nat.mul_le_mul h3 (by omega)
  rw [List.length_append]
  omega
def sp__common_spans (K : PySem.W.Frag) : Sp := fun vs H Q _ => ∃ (a b : List Span) (pa pb : Addr) (xa xb : List V) (U : Hp), vs = [.ref pa, .ref pb] ∧ Same U H ∧ SqT K U pa xa ∧ DpAll K U xa (a.map spanD) ∧ SqT K U pb xb ∧ DpAll K U xb (b.map spanD) ∧
  Rows Prod.fst Prod.snd a ∧ Rows Prod.fst Prod.snd b ∧ a.length < 100 ∧ b.length < 100 ∧
  ∀ p xs U' H', Ext U H U' H' → SqT K U' p xs → DpAll K U' xs ((cmnS a b).map spanD) → Q (.ref p) H'
theorem sc__common_spans : FnScope ["a", "b", "found", "first", "begin", "end", "at"] ["a", "b"] (defScope s__common_spans) := ⟨rfl, rfl, rfl, by decide +kernel, rfl, by decide +kernel, by decide +kernel⟩
theorem ok__common_spans (T : Txt K mg A) : FnOk P w K mg base CX0 2 A.f_common_spans A.d_common_spans ["a", "b"] (sp__common_spans K) := by
  refine T.F_common_spans.ok sc__common_spans (fun vs H Q E h => ?_) (fun cdv Ar outer s H vs Q E hr h => ?_)
  · obtain ⟨_, _, _, _, _, _, _, rfl, _⟩ := h
    rfl
  · obtain ⟨a, b, pa, pb, xa, xb, U, rfl, sU, hSa, hXa, hSb, hXb, Ra, Rb, hla, hlb, q⟩ := h
    refine ⟨_, (pss_cons (ps_set (i := 2) sc__common_spans.nd rfl (Or.inl rfl) (pe_lst pa_nil))
      (pss_cons (ps_set (i := 3) sc__common_spans.nd rfl (Or.inl rfl) pe_int)
      (pss_cons (ps_for PassesOwn.never rfl (pi_tup (pv 0)) (pg_tup rfl (pgs_cons (pg_name (i := 4) sc__common_spans.nd rfl (Or.inl rfl)) (pgs_cons (pg_name (i := 5) sc__common_spans.nd rfl (Or.inl rfl)) pgs_nil)))
      (pss_cons (ps_set (i := 3) sc__common_spans.nd rfl (Or.inl rfl) (pe_call (ok__first_ending_behind_T T) (hr.mono (by decide)) rfl T.g_first_ending_behind T.k_first_ending_behind T.b_first_ending_behind .nil pass0 (pa_cons (pv 1) (pa_cons (pv 3) (pa_cons (pv 4) pa_nil)))))
      (pss_cons (ps_set (i := 6) sc__common_spans.nd rfl (Or.inl rfl) (pv 3))
      (pss_one (ps_while PassesOwn.never (PW.pt (pw_and (pt_cmpR op_lt (pv 6) (pe_callB call_len_seq (by rfl) T.len PySem.boot_len (pa_cons (pv 1) pa_nil)) (nomark _)) (pw_and1 (pt_cmpR op_lt (pe_ix (r := rIxT K) ix_tup (pe_ix (r := rIxT K) ix_tup (pv 1) (pv 6) (fun _ _ => rfl)) pe_int (fun _ _ => rfl)) (pv 5) (nomark _)))))
      (pss_cons (ps_expr (pe_bm PySem.F.plainAttrs_list PySem.F.slot_list_append PySem.F.type_list_append mt_append (pv 2) (pa_cons (pe_tup (pa_cons (pe_callB (call_max2 rfl) (by rfl) T.max (by decide +kernel) (pa_cons (pv 4) (pa_cons (pe_ix (r := rIxT K) ix_tup (pe_ix (r := rIxT K) ix_tup (pv 1) (pv 6) (fun _ _ => rfl)) pe_int (fun _ _ => rfl)) pa_nil))) (pa_cons (pe_callB (call_min2 rfl) (by rfl) T.min (by decide +kernel) (pa_cons (pv 5) (pa_cons (pe_ix (r := rIxT K) ix_tup (pe_ix (r := rIxT K) ix_tup (pv 1) (pv 6) (fun _ _ => rfl)) pe_int (fun _ _ => rfl)) pa_nil))) pa_nil))) pa_nil)))
      (pss_one (ps_aug (i := 6) sc__common_spans.nd rfl (Or.inl rfl) pe_int ip_add))))))))
      (pss_one (ps_ret (pe_callTy call_tuple_of (by rfl) T.tuple (by decide +kernel) (pa_cons (pv 2) pa_nil))))))), ?_⟩
    refine ⟨len_line (by show 0 ≤ 100000; decide), fun D hD => ?_⟩
    have npD : H D = none := hD
    have hUD : U D = none := none_of_same sU hD
    have lxa : xa.length = a.length := by rw [dpall_len hXa, List.length_map]
    have lxb : xb.length = b.length := by rw [dpall_len hXb, List.length_map]
    refine ⟨_, rfl, pa, rfl, ⟨_, (same_upd hD).sqt (sU.sqt hSa)⟩, for_tup (K := K) (a := pa) (xs := xa) (fun i σ H' => ∃ (k : Nat) (v4 v5 v6 : Option V) (V' : Hp) (zs : List V), σ = [some (.ref pa), some (.ref pb), some (.ref D), some (.int (k : Int)), v4, v5, v6] ∧ k ≤ b.length ∧ (∀ s, a[i]? = some s → ∀ (j : Nat) (q : Span), j < k → b[j]? = some q → q.2 ≤ s.1) ∧ Ext U H V' H' ∧ V' D = none ∧ H' D = some (.lst zs) ∧ DpAll K V' zs ((cmnS (a.take i) b).map spanD)) ?_ ?_ ?_ ?_⟩
    · exact ⟨0, _, _, _, U, [], rfl, Nat.zero_le _, fun s _ j q hj => absurd hj (Nat.not_lt_zero _), Ext.skip sU hD, hUD, upd_same, .nil⟩
    · rintro i σ H' _ ⟨_, _, _, _, V', zs, _, _, _, x, _⟩
      exact x.vh.sqt (x.vv.sqt hSa)
    · rintro i x σ H3 hx ⟨k, v4, v5, v6, V3, zs, rfl, hk, hkb, x3, hV3, hz, dz⟩
      obtain ⟨d, hd, dv⟩ := dpall_get hXa hx
      rw [List.getElem?_map] at hd
      obtain ⟨⟨bg, en⟩, hsg, rfl⟩ := Option.map_eq_some_iff.mp hd
      obtain ⟨pt, rfl, qt⟩ := dp_span dv
      have sUH := x3.vv.trans x3.vh
      refine ⟨pt, _, rfl, sUH.sqt qt, rfl, _, _, rfl, _, _, rfl, rfl, ?_⟩
      refine ⟨_, rfl, _, rfl, _, rfl, Span, Prod.fst, Prod.snd, spanD, b, pb, xb, k, bg, rfl, row_span, sUH.sqt hSb, hXb.to sUH, hk, hkb _ hsg, fun k1 hk1 hb1 he1 => ?_⟩
      refine ⟨_, rfl, ?_⟩
      have hstart : (cmnS (a.take i) b ++ ((b.take k1).filter (meets Prod.fst Prod.snd (bg, en))).map (mkS (bg, en))) = cmnS (a.take i) b := by
        rw [meet_none (lo := Prod.fst) (hi := Prod.snd) (s := ((bg, en) : Span)) hb1]; simp
      refine ⟨fun m σ H' => ∃ (k2 : Nat) (V' : Hp) (zs' : List V), σ = [some (.ref pa), some (.ref pb), some (.ref D), some (.int (k1 : Int)), some (.int bg), some (.int en), some (.int (k2 : Int))] ∧ k1 ≤ k2 ∧ k2 ≤ b.length ∧ m = b.length - k2 ∧ Ext U H V' H' ∧ V' D = none ∧ H' D = some (.lst zs') ∧ DpAll K V' zs' ((cmnS (a.take i) b ++ ((b.take k2).filter (meets Prod.fst Prod.snd (bg, en))).map (mkS (bg, en))).map spanD), ⟨_, k1, V3, zs, rfl, Nat.le_refl _, hk1, rfl, x3, hV3, hz, by rw [hstart]; exact dz⟩, ?_⟩
      rintro m σ H4 ⟨k2, V4, zs4, rfl, hk12, hk2, rfl, x4, hV4, hz4, dz4⟩
      have sU4 := x4.vv.trans x4.vh
      have fin : (∀ q, b[k2]? = some q → en ≤ q.1) → ∃ (k : Nat) (v4 v5 v6 : Option V) (V' : Hp) (zs : List V), [some (V.ref pa), some (V.ref pb), some (V.ref D), some (V.int (k1 : Int)), some (V.int bg), some (V.int en), some (V.int (k2 : Int))] = [some (.ref pa), some (.ref pb), some (.ref D), some (.int (k : Int)), v4, v5, v6] ∧ k ≤ b.length ∧ (∀ s, a[i + 1]? = some s → ∀ (j : Nat) (q : Span), j < k → b[j]? = some q → q.2 ≤ s.1) ∧ Ext U H V' H4 ∧ V' D = none ∧ H4 D = some (.lst zs) ∧ DpAll K V' zs ((cmnS (a.take (i + 1)) b).map spanD) := fun h => by
        refine ⟨k1, _, _, _, V4, zs4, rfl, hk1, fun s hs j q hj hq => ?_, x4, hV4, hz4, ?_⟩
        · have h1 := hb1 j q hj hq
          have h2 := Ra.below hsg hs
          exact Int.le_trans h1 h2
        · have e : cmnS (a.take (i + 1)) b = cmnS (a.take i) b ++ ((b.take k2).filter (meets Prod.fst Prod.snd (bg, en))).map (mkS (bg, en)) := by
            show sweep _ _ _ _ _ = _
            rw [sweep_take hsg]
            unfold swRow
            rw [← meet_end Rb (s := ((bg, en) : Span)) (k := k2) h]; rfl
          rw [e]; exact dz4
      refine ⟨_, rfl, _, rfl, pb, _, rfl, .inr (sU4.sqt hSb), _, _, rfl, rfl, _, rfl, iteP (fun h => ?_) (fun h => ?_)⟩
      · have hk3 : k2 < b.length := by rw [← lxb]; omega
        have hr' := List.getElem?_eq_getElem hk3
        obtain ⟨v, hv, dv⟩ := dpall_get' hXb (i := k2) (d := spanD b[k2]) (by rw [List.getElem?_map, hr']; rfl)
        obtain ⟨pr, rfl, hpr0⟩ := dp_span dv
        have hpr := sU4.sqt hpr0
        generalize b[k2] = row at hr' dv hpr hpr0
        refine ⟨_, rfl, _, rfl, pb, _, _, _, rfl, rfl, sU4.sqt hSb, atI_nat hv, pr, _, _, _, rfl, rfl, hpr, atI_nat (j := 0) rfl, _, rfl, _, _, rfl, rfl, _, rfl, iteP (fun h2 => ?_) (fun h2 => ?_)⟩
        · have hge : bg < row.2 := by
            by_cases c : k2 = k1
            · subst c; exact he1 row hr'
            · have hk1' : k1 < b.length := by omega
              have o := (List.pairwise_iff_getElem.mp Rb.ord) k1 k2 hk1' hk3 (by omega)
              have e1 := he1 _ (List.getElem?_eq_getElem hk1')
              have e2 := Rb.pos row (List.mem_of_getElem? hr')
              have e3 : b[k2] = row := (List.getElem?_eq_some_iff.mp hr').2
              rw [e3] at o
              omega
          refine ⟨fun σ' H2 => ∃ (V' : Hp) (zs' : List V), σ' = [some (.ref pa), some (.ref pb), some (.ref D), some (.int (k1 : Int)), some (.int bg), some (.int en), some (.int ((k2 + 1 : Nat) : Int))] ∧ Ext U H V' H2 ∧ V' D = none ∧ H2 D = some (.lst zs') ∧ DpAll K V' zs' ((cmnS (a.take i) b ++ ((b.take (k2 + 1)).filter (meets Prod.fst Prod.snd (bg, en))).map (mkS (bg, en))).map spanD), ?_, ?_⟩
          · rintro σ' H2 ⟨V', zs', rfl, x', hV', hz', dz'⟩
            exact ⟨b.length - (k2 + 1), by omega, k2 + 1, V', zs', rfl, by omega, hk3, rfl, x', hV', hz', dz'⟩
          · refine ⟨_, rfl, .inl ⟨rfl, _, SqL.of hz4⟩, _, rfl, _, rfl, _, rfl, pb, _, _, _, rfl, rfl, sU4.sqt hSb, atI_nat hv, pr, _, _, _, rfl, rfl, hpr, atI_nat (j := 0) rfl, _, _, rfl, _, rfl, _, rfl, _, rfl, pb, _, _, _, rfl, rfl, sU4.sqt hSb, atI_nat hv, pr, _, _, _, rfl, rfl, hpr, atI_nat (j := 1) rfl, _, _, rfl, len_line (by show 2 ≤ 100000; decide), fun p5 h5 => ?_⟩
            have xn := Ext.new (o := .tup [.int (mxI bg row.1), .int (mnI en row.2)]) x4.vh h5
            have hV5 := xn.keepOut hV4 (by rw [hz4]; exact fun z => by cases z)
            have hz5 := xn.hh _ _ hz4
            refine ⟨D, _, _, rfl, rfl, hz5, lt_line (by rw [dpall_len dz4, List.length_map]; have := sweep_few (lo := Prod.fst) (hi := Prod.snd) (mk := mkS) (a := a) (b := b) i k2 (s := ((bg, en) : Span)) hla hlb; exact Nat.lt_trans this (by decide)), ?_⟩
            refine ⟨_, rfl, _, _, rfl, rfl, _, _, rfl, (x4.trans xn).poke npD hV5, hV5, upd_same, ?_⟩
            have ea : ∀ X F : List Span, X ++ (F ++ [row]).map (mkS (bg, en)) = (X ++ F.map (mkS (bg, en))) ++ [mkS (bg, en) row] := fun X F => by rw [List.map_append, List.append_assoc]; rfl
            rw [meet_step (s := ((bg, en) : Span)) hr' hge h2, ea, List.map_append]
            exact dpall_app (dz4.to xn.vv) (.cons (mk_span (s := mkS (bg, en) row) (SqT.of upd_same)) .nil)
        · exact fin fun q hq => by rw [hr'] at hq; cases hq; omega
      · exact fin fun q hq => by
          have := (List.getElem?_eq_some_iff.mp hq).1
          rw [lxb] at h; omega
    · rintro σ H3 ⟨k, v4, v5, v6, V3, zs, rfl, hk, hkb, x3, hV3, hz, dz⟩
      rw [lxa, List.take_length] at dz
      refine ⟨_, rfl, D, zs, rfl, .inl ⟨SqL.of hz, fun pr hpr => ?_⟩⟩
      have xn := Ext.new (o := .tup zs) x3.vh hpr
      exact q _ _ _ _ (x3.trans xn) (SqT.of upd_same) (dz.to xn.vv)
theorem sc_common : FnScope ["a", "b", "bands", "first", "top", "bottom", "spans", "at"] ["a", "b"] (defScope s_common) := ⟨rfl, rfl, rfl, by decide +kernel, rfl, by decide +kernel, by decide +kernel⟩
theorem ok_common (T : Txt K mg A) : FnOk P w K mg base CX0 5 A.fcommon A.dcommon ["a", "b"] (sp_op2 and K) := by
  refine T.Fcommon.ok sc_common (fun vs H Q E h => ?_) (fun cdv Ar outer s H vs Q E hr h => ?_)
  · obtain ⟨_, _, _, _, _, rfl, _⟩ := h
    rfl
  · obtain ⟨Ra, Rb, va, vb, U, rfl, sU, da, db, oa, ob, pr, q⟩ := h
    rw [← cmnR_eq oa ob] at q
    obtain ⟨pa, xa, rfl, hSa, hXa⟩ := dp_list da
    obtain ⟨pb, xb, rfl, hSb, hXb⟩ := dp_list db
    refine ⟨_, (pss_cons (ps_set (i := 2) sc_common.nd rfl (Or.inl rfl) (pe_lst pa_nil))
      (pss_cons (ps_set (i := 3) sc_common.nd rfl (Or.inl rfl) pe_int)
      (pss_cons (ps_for PassesOwn.never rfl (pi_list (pv 0)) (pg_tup rfl (pgs_cons (pg_name (i := 4) sc_common.nd rfl (Or.inl rfl)) (pgs_cons (pg_name (i := 5) sc_common.nd rfl (Or.inl rfl)) (pgs_cons (pg_name (i := 6) sc_common.nd rfl (Or.inl rfl)) pgs_nil))))
      (pss_cons (ps_set (i := 3) sc_common.nd rfl (Or.inl rfl) (pe_call (ok__first_ending_behind_L T) (hr.mono (by decide)) rfl T.g_first_ending_behind T.k_first_ending_behind T.b_first_ending_behind .nil pass0 (pa_cons (pv 1) (pa_cons (pv 3) (pa_cons (pv 4) pa_nil)))))
      (pss_cons (ps_set (i := 7) sc_common.nd rfl (Or.inl rfl) (pv 3))
      (pss_one (ps_while PassesOwn.never (PW.pt (pw_and (pt_cmpR op_lt (pv 7) (pe_callB call_len_seq (by rfl) T.len PySem.boot_len (pa_cons (pv 1) pa_nil)) (nomark _)) (pw_and1 (pt_cmpR op_lt (pe_ix (r := rIxT K) ix_tup (pe_ix (r := rIxL K) ix_list (pv 1) (pv 7) (fun _ _ => rfl)) pe_int (fun _ _ => rfl)) (pv 5) (nomark _)))))
      (pss_cons (ps_expr (pe_bm PySem.F.plainAttrs_list PySem.F.slot_list_append PySem.F.type_list_append mt_append (pv 2) (pa_cons (pe_tup (pa_cons (pe_callB (call_max2 rfl) (by rfl) T.max (by decide +kernel) (pa_cons (pv 4) (pa_cons (pe_ix (r := rIxT K) ix_tup (pe_ix (r := rIxL K) ix_list (pv 1) (pv 7) (fun _ _ => rfl)) pe_int (fun _ _ => rfl)) pa_nil))) (pa_cons (pe_callB (call_min2 rfl) (by rfl) T.min (by decide +kernel) (pa_cons (pv 5) (pa_cons (pe_ix (r := rIxT K) ix_tup (pe_ix (r := rIxL K) ix_list (pv 1) (pv 7) (fun _ _ => rfl)) pe_int (fun _ _ => rfl)) pa_nil))) (pa_cons (pe_call (ok__common_spans T) (hr.mono (by decide)) rfl T.g_common_spans T.k_common_spans T.b_common_spans .nil pass0 (pa_cons (pv 6) (pa_cons (pe_ix (r := rIxT K) ix_tup (pe_ix (r := rIxL K) ix_list (pv 1) (pv 7) (fun _ _ => rfl)) pe_int (fun _ _ => rfl)) pa_nil))) pa_nil)))) pa_nil)))
      (pss_one (ps_aug (i := 7) sc_common.nd rfl (Or.inl rfl) pe_int ip_add))))))))
      (pss_one (ps_ret (pe_call (ok__joined T) (hr.mono (by decide)) rfl T.g_joined T.k_joined T.b_joined .nil pass0 (pa_cons (pv 2) pa_nil))))))), ?_⟩
    refine ⟨len_line (by show 0 ≤ 100000; decide), fun D hD => ?_⟩
    have npD : H D = none := hD
    have hUD : U D = none := none_of_same sU hD
    have lxa : xa.length = Ra.length := by rw [dpall_len hXa, List.length_map]
    have lxb : xb.length = Rb.length := by rw [dpall_len hXb, List.length_map]
    refine ⟨_, rfl, pa, rfl, ⟨_, (same_upd hD).seq (sU.seq hSa)⟩, for_list (K := K) (a := pa) (xs := xa) (fun i σ H' => ∃ (k : Nat) (v4 v5 v6 v7 : Option V) (V' : Hp) (zs : List V), σ = [some (.ref pa), some (.ref pb), some (.ref D), some (.int (k : Int)), v4, v5, v6, v7] ∧ k ≤ Rb.length ∧ (∀ s, Ra[i]? = some s → ∀ (j : Nat) (q : Band), j < k → Rb[j]? = some q → bHi q ≤ bLo s) ∧ Ext U H V' H' ∧ V' D = none ∧ H' D = some (.lst zs) ∧ DpAll K V' zs ((sweep bLo bHi mkB (Ra.take i) Rb).map bandD)) ?_ ?_ ?_ ?_⟩
    · exact ⟨0, _, _, _, _, U, [], rfl, Nat.zero_le _, fun s _ j q hj => absurd hj (Nat.not_lt_zero _), Ext.skip sU hD, hUD, upd_same, .nil⟩
    · rintro i σ H' _ ⟨_, _, _, _, _, V', zs, _, _, _, x, _⟩
      exact x.vh.seq (x.vv.seq hSa)
    · rintro i x σ H3 hx ⟨k, v4, v5, v6, v7, V3, zs, rfl, hk, hkb, x3, hV3, hz, dz⟩
      obtain ⟨d, hd, dv⟩ := dpall_get hXa hx
      rw [List.getElem?_map] at hd
      obtain ⟨⟨tp, bt, ss⟩, hsg, rfl⟩ := Option.map_eq_some_iff.mp hd
      obtain ⟨pt, pss, ws, rfl, qt, qss, dss⟩ := dp_band dv
      have sUH := x3.vv.trans x3.vh
      refine ⟨pt, _, rfl, sUH.sqt qt, rfl, _, _, rfl, _, _, rfl, _, _, rfl, rfl, ?_⟩
      refine ⟨_, rfl, _, rfl, _, rfl, Band, bLo, bHi, bandD, Rb, pb, xb, k, tp, rfl, row_band, sUH.seq hSb, hXb.to sUH, hk, hkb _ hsg, fun k1 hk1 hb1 he1 => ?_⟩
      refine ⟨_, rfl, ?_⟩
      have hstart : (sweep bLo bHi mkB (Ra.take i) Rb ++ ((Rb.take k1).filter (meets bLo bHi (tp, bt, ss))).map (mkB (tp, bt, ss))) = sweep bLo bHi mkB (Ra.take i) Rb := by
        rw [meet_none (lo := bLo) (hi := bHi) (s := ((tp, bt, ss) : Band)) hb1]; simp
      refine ⟨fun m σ H' => ∃ (k2 : Nat) (V' : Hp) (zs' : List V), σ = [some (.ref pa), some (.ref pb), some (.ref D), some (.int (k1 : Int)), some (.int tp), some (.int bt), some (.ref pss), some (.int (k2 : Int))] ∧ k1 ≤ k2 ∧ k2 ≤ Rb.length ∧ m = Rb.length - k2 ∧ Ext U H V' H' ∧ V' D = none ∧ H' D = some (.lst zs') ∧ DpAll K V' zs' ((sweep bLo bHi mkB (Ra.take i) Rb ++ ((Rb.take k2).filter (meets bLo bHi (tp, bt, ss))).map (mkB (tp, bt, ss))).map bandD), ⟨_, k1, V3, zs, rfl, Nat.le_refl _, hk1, rfl, x3, hV3, hz, by rw [hstart]; exact dz⟩, ?_⟩
      rintro m σ H4 ⟨k2, V4, zs4, rfl, hk12, hk2, rfl, x4, hV4, hz4, dz4⟩
      have sU4 := x4.vv.trans x4.vh
      have fin : (∀ q, Rb[k2]? = some q → bt ≤ bLo q) → ∃ (k : Nat) (v4 v5 v6 v7 : Option V) (V' : Hp) (zs : List V), [some (V.ref pa), some (V.ref pb), some (V.ref D), some (V.int (k1 : Int)), some (V.int tp), some (V.int bt), some (V.ref pss), some (V.int (k2 : Int))] = [some (.ref pa), some (.ref pb), some (.ref D), some (.int (k : Int)), v4, v5, v6, v7] ∧ k ≤ Rb.length ∧ (∀ s, Ra[i + 1]? = some s → ∀ (j : Nat) (q : Band), j < k → Rb[j]? = some q → bHi q ≤ bLo s) ∧ Ext U H V' H4 ∧ V' D = none ∧ H4 D = some (.lst zs) ∧ DpAll K V' zs ((sweep bLo bHi mkB (Ra.take (i + 1)) Rb).map bandD) := fun h => by
        refine ⟨k1, _, _, _, _, V4, zs4, rfl, hk1, fun s hs j q hj hq => ?_, x4, hV4, hz4, ?_⟩
        · have h1 := hb1 j q hj hq
          have h2 := oa.rows.below hsg hs
          exact Int.le_trans h1 h2
        · rw [sweep_take hsg]
          unfold swRow
          rw [← meet_end ob.rows (s := ((tp, bt, ss) : Band)) (k := k2) h]
          exact dz4
      refine ⟨_, rfl, _, rfl, pb, _, rfl, .inl (sU4.seq hSb), _, _, rfl, rfl, _, rfl, iteP (fun h => ?_) (fun h => ?_)⟩
      · have hk3 : k2 < Rb.length := by rw [← lxb]; omega
        have hr' := List.getElem?_eq_getElem hk3
        obtain ⟨v, hv, dv⟩ := dpall_get' hXb (i := k2) (d := bandD Rb[k2]) (by rw [List.getElem?_map, hr']; rfl)
        have e3 : Rb[k2] = Rb[k2] := rfl
        generalize hrow : Rb[k2] = row at hr' dv
        obtain ⟨pr, prs, wr, rfl, hpr0, qrs, drs⟩ := dp_band dv
        have hpr := sU4.sqt hpr0
        refine ⟨_, rfl, _, rfl, pb, _, _, _, rfl, rfl, sU4.seq hSb, atI_nat hv, pr, _, _, _, rfl, rfl, hpr, atI_nat (j := 0) rfl, _, rfl, _, _, rfl, rfl, _, rfl, iteP (fun h2 => ?_) (fun h2 => ?_)⟩
        · have hge : tp < row.2.1 := by
            by_cases c : k2 = k1
            · subst c; exact he1 row hr'
            · have hk1' : k1 < Rb.length := by omega
              have o : bHi Rb[k1] ≤ bLo Rb[k2] := (List.pairwise_iff_getElem.mp ob.rows.ord) k1 k2 hk1' hk3 (by omega)
              have e1 : tp < bHi Rb[k1] := he1 _ (List.getElem?_eq_getElem hk1')
              have e2 : bLo row < bHi row := ob.rows.pos row (List.mem_of_getElem? hr')
              rw [hrow] at o
              have e2' : row.1 < row.2.1 := e2
              have o' : bHi Rb[k1] ≤ row.1 := o
              omega
          have hsa : ((tp, bt, ss) : Band) ∈ Ra := List.mem_of_getElem? hsg
          have hrb : row ∈ Rb := List.mem_of_getElem? hr'
          refine ⟨fun σ' H2 => ∃ (V' : Hp) (zs' : List V), σ' = [some (.ref pa), some (.ref pb), some (.ref D), some (.int (k1 : Int)), some (.int tp), some (.int bt), some (.ref pss), some (.int ((k2 + 1 : Nat) : Int))] ∧ Ext U H V' H2 ∧ V' D = none ∧ H2 D = some (.lst zs') ∧ DpAll K V' zs' ((sweep bLo bHi mkB (Ra.take i) Rb ++ ((Rb.take (k2 + 1)).filter (meets bLo bHi (tp, bt, ss))).map (mkB (tp, bt, ss))).map bandD), ?_, ?_⟩
          · rintro σ' H2 ⟨V', zs', rfl, x', hV', hz', dz'⟩
            exact ⟨Rb.length - (k2 + 1), by omega, k2 + 1, V', zs', rfl, by omega, hk3, rfl, x', hV', hz', dz'⟩
          · refine ⟨_, rfl, .inl ⟨rfl, _, SqL.of hz4⟩, _, rfl, _, rfl, _, rfl, pb, _, _, _, rfl, rfl, sU4.seq hSb, atI_nat hv, pr, _, _, _, rfl, rfl, hpr, atI_nat (j := 0) rfl, _, _, rfl, _, rfl, _, rfl, _, rfl, pb, _, _, _, rfl, rfl, sU4.seq hSb, atI_nat hv, pr, _, _, _, rfl, rfl, hpr, atI_nat (j := 1) rfl, _, _, rfl, _, rfl, _, rfl, _, rfl, pb, _, _, _, rfl, rfl, sU4.seq hSb, atI_nat hv, pr, _, _, _, rfl, rfl, hpr, atI_nat (j := 2) rfl, ?_⟩
            refine ⟨ss, row.2.2, pss, prs, ws, wr, V4, rfl, x4.vh, x4.vv.sqt qss, dss.to x4.vv, x4.vv.sqt qrs, drs.to x4.vv, oa.sps _ hsa, ob.sps _ hrb, oa.fews _ hsa, ob.fews _ hrb, fun p5 zs5 V5 H5 x5 q5 d5 => ?_⟩
            refine ⟨len_line (by show 3 ≤ 100000; decide), fun p6 h6 => ?_⟩
            have x45 := x4.trans x5
            have hV5 := x5.keepOut hV4 (by rw [hz4]; exact fun z => by cases z)
            have hz5 := x5.hh _ _ hz4
            have xn := Ext.new (o := .tup [.int (mxI tp row.1), .int (mnI bt row.2.1), .ref p5]) x5.vh h6
            have hV6 := xn.keepOut hV5 (by rw [hz5]; exact fun z => by cases z)
            have hz6 := xn.hh _ _ hz5
            refine ⟨D, _, _, rfl, rfl, hz6, lt_line (by rw [dpall_len dz4, List.length_map]; have := sweep_few (lo := bLo) (hi := bHi) (mk := mkB) (a := Ra) (b := Rb) i k2 (s := ((tp, bt, ss) : Band)) oa.few ob.few; exact Nat.lt_trans this (by decide)), ?_⟩
            refine ⟨_, rfl, _, _, rfl, rfl, _, _, rfl, (x45.trans xn).poke npD hV6, hV6, upd_same, ?_⟩
            have sv := x5.vv.trans xn.vv
            have ea : ∀ X F : List Band, X ++ (F ++ [row]).map (mkB (tp, bt, ss)) = (X ++ F.map (mkB (tp, bt, ss))) ++ [mkB (tp, bt, ss) row] := fun X F => by rw [List.map_append, List.append_assoc]; rfl
            rw [meet_step (s := ((tp, bt, ss) : Band)) hr' hge h2, ea, List.map_append]
            exact dpall_app (dz4.to sv) (.cons (mk_band (b := mkB (tp, bt, ss) row) (SqT.of upd_same) (xn.vv.sqt q5) (d5.to xn.vv)) .nil)
        · exact fin fun q hq => by
            rw [hr'] at hq; cases hq
            show bt ≤ row.1
            omega
      · exact fin fun q hq => by
          have := (List.getElem?_eq_some_iff.mp hq).1
          rw [lxb] at h; omega
    · rintro σ H3 ⟨k, v4, v5, v6, v7, V3, zs, rfl, hk, hkb, x3, hV3, hz, dz⟩
      rw [lxa, List.take_length] at dz
      have few : (sweep bLo bHi mkB Ra Rb).length ≤ 20000 := by
        have h1 := sweep_len (lo := bLo) (hi := bHi) (mk := mkB) Ra Rb
        have h2 : Ra.length * Rb.length ≤ 100 * 100 := Nat.mul_le_mul (Nat.le_of_lt oa.few) (Nat.le_of_lt ob.few)
        omega
      have xD := x3.take npD hV3 hz
      exact ⟨_, rfl, sweep bLo bHi mkB Ra Rb, _, _, rfl, xD.vh, .lst (SqL.of upd_same) (dz.to (same_upd hV3)), few, fun v' U' H' x' d' => q _ _ _ (xD.trans x') d'⟩
/-! ### the law's grids -/
def gx (k : Nat) : Int := (k : Int) / 11 - 1
def gy (k : Nat) : Int := (k : Int) % 11 - 1
def gL (f : Nat → Bool) : List V := (List.range 121).map fun k => .bl (f k)
def sqf (R : List Band) (k : Nat) : Bool := hasSq R (gx k) (gy k)
theorem gL_at (f : Nat → Bool) {k : Nat} (h : k < 121) : (gL f)[k]? = some (.bl (f k)) := by
  unfold gL
  rw [List.getElem?_map, List.getElem?_range h]; rfl
def rcX (row : Int) : Int := row % 7 - 1
def rcY (row : Int) : Int := row / 7 % 7 - 1
def rcW (row : Int) : Int := row / 49 % 6 - 1
def rcH (row : Int) : Int := row / 294 % 6 - 1
def rcR (row : Int) : List Band := rectReg (rcX row) (rcY row) (rcW row) (rcH row)
theorem rc_box (row : Int) : Box (rcR row) := Box.rect (by unfold rcX rcW; omega) (by unfold rcY rcH; omega)
def rcV (row : Int) : List V := [.int (rcX row), .int (rcY row), .int (rcW row), .int (rcH row)]
def sp__law_rect (K : PySem.W.Frag) : Sp := fun vs H Q _ => ∃ row : Int, vs = [.int row] ∧ RetT H Q (rcV row)
theorem sc__law_rect : FnScope ["row"] ["row"] (defScope s__law_rect) := ⟨rfl, rfl, rfl, by decide +kernel, rfl, by decide +kernel, by decide +kernel⟩
theorem ok__law_rect (T : Txt K mg A) : FnOk P w K mg base CX0 1 A.f_law_rect A.d_law_rect ["row"] (sp__law_rect K) := by
  refine T.F_law_rect.ok sc__law_rect (fun vs H Q E h => ?_) (fun cdv Ar outer s H vs Q E hr h => ?_)
  · obtain ⟨_, rfl, _⟩ := h
    rfl
  · obtain ⟨row, rfl, q⟩ := h
    refine ⟨_, (pss_one (ps_ret (pe_tup (pa_cons (pe_op op_sub (pe_op op_mod (pe_callTy call_int1 (by rfl) T.int (by decide +kernel) (pa_cons (pv 0) pa_nil)) pe_int) pe_int) (pa_cons (pe_op op_sub (pe_op op_mod (pe_callTy call_int1 (by rfl) T.int (by decide +kernel) (pa_cons (pe_op op_fdiv (pv 0) pe_int) pa_nil)) pe_int) pe_int) (pa_cons (pe_op op_sub (pe_op op_mod (pe_callTy call_int1 (by rfl) T.int (by decide +kernel) (pa_cons (pe_op op_fdiv (pv 0) pe_int) pa_nil)) pe_int) pe_int) (pa_cons (pe_op op_sub (pe_op op_mod (pe_callTy call_int1 (by rfl) T.int (by decide +kernel) (pa_cons (pe_op op_fdiv (pv 0) pe_int) pa_nil)) pe_int) pe_int) pa_nil))))))), ?_⟩
    walk_at "go"
    exact q _ _ (by walk_at "sm") upd_same
def sp__law_in_rect (K : PySem.W.Frag) : Sp := fun vs H Q _ => ∃ (p : Addr) (x y wd ht a b : Int), vs = [.ref p, .int a, .int b] ∧ SqT K H p [.int x, .int y, .int wd, .int ht] ∧ Q (.bl (hasSq (rectReg x y wd ht) a b)) H
theorem in_rect (x y wd ht a b : Int) : hasSq (rectReg x y wd ht) a b = decide ((x ≤ a ∧ a < x + wd) ∧ y ≤ b ∧ b < y + ht) := by
  unfold rectReg
  by_cases hw : wd ≤ 0 ∨ ht ≤ 0
  · rw [if_pos hw, decide_eq_false (fun z => by omega)]; rfl
  · rw [if_neg hw]
    show (if y ≤ b ∧ b < y + ht then [(x, x + wd)].any (fun s => decide (s.1 ≤ a ∧ a < s.2)) else false) = _
    by_cases h : y ≤ b ∧ b < y + ht
    · rw [if_pos h, List.any_cons, List.any_nil, Bool.or_false]
      by_cases g : x ≤ a ∧ a < x + wd
      · rw [decide_eq_true g, decide_eq_true ⟨g, h⟩]
      · rw [decide_eq_false g, decide_eq_false fun z => g z.1]
    · rw [if_neg h, decide_eq_false fun z => h z.2]
theorem sc__law_in_rect : FnScope ["rect", "x", "y"] ["rect", "x", "y"] (defScope s__law_in_rect) := ⟨rfl, rfl, rfl, by decide +kernel, rfl, by decide +kernel, by decide +kernel⟩
theorem ok__law_in_rect (T : Txt K mg A) : FnOk P w K mg base CX0 1 A.f_law_in_rect A.d_law_in_rect ["rect", "x", "y"] (sp__law_in_rect K) := by
  refine T.F_law_in_rect.ok sc__law_in_rect (fun vs H Q E h => ?_) (fun cdv Ar outer s H vs Q E hr h => ?_)
  · obtain ⟨_, _, _, _, _, _, _, rfl, _⟩ := h
    rfl
  · obtain ⟨p, x, y, wd, ht, a, b, rfl, hp, q⟩ := h
    refine ⟨_, (pss_one (ps_ret (pe_and (pe_chain op_le op_lt (pe_ix (r := rIxT K) ix_tup (pv 0) pe_int (fun _ _ => rfl)) (pv 1) (pe_op op_add (pe_ix (r := rIxT K) ix_tup (pv 0) pe_int (fun _ _ => rfl)) (pe_ix (r := rIxT K) ix_tup (pv 0) pe_int (fun _ _ => rfl)))) (pe_one (pe_chain op_le op_lt (pe_ix (r := rIxT K) ix_tup (pv 0) pe_int (fun _ _ => rfl)) (pv 2) (pe_op op_add (pe_ix (r := rIxT K) ix_tup (pv 0) pe_int (fun _ _ => rfl)) (pe_ix (r := rIxT K) ix_tup (pv 0) pe_int (fun _ _ => rfl)))))))), ?_⟩
    have fin : ∀ c : Bool, c = decide ((x ≤ a ∧ a < x + wd) ∧ y ≤ b ∧ b < y + ht) → Q (.bl c) H := by
      intro c hc; rw [hc, ← in_rect]; exact q
    walk_at "go"
    refine iteP (fun h => ?_) (fun h => ?_)
    · walk_at "go"
      refine if_b (fun h1 => ?_) (fun h1 => ?_)
      · have h1 := of_decide_eq_true h1
        walk_at "go"
        refine iteP (fun h2 => ?_) (fun h2 => ?_)
        · walk_at "go"
          refine fin _ ?_
          by_cases h3 : b < y + ht
          · rw [decide_eq_true h3, decide_eq_true ⟨⟨h, h1⟩, h2, h3⟩]
          · rw [decide_eq_false h3, decide_eq_false fun z => h3 z.2.2]
        · exact fin _ (by rw [decide_eq_false fun z => h2 z.2.1])
      · have h2 := of_decide_eq_false h1
        refine fin _ ?_
        rw [decide_eq_false fun z => h2 z.1.2]
    · walk_at "go"
      exact fin _ (by rw [decide_eq_false fun z => h z.1.1])
def sp__law_grid (K : PySem.W.Frag) : Sp := fun vs H Q _ => ∃ (p : Addr) (x y wd ht : Int), vs = [.ref p] ∧ SqT K H p [.int x, .int y, .int wd, .int ht] ∧ ∀ p' H', Same H H' → SqL K H' p' (gL (sqf (rectReg x y wd ht))) → Q (.ref p') H'
theorem bools_of {K : PySem.W.Frag} {H : Hp} {a : Addr} {f : Nat → Bool} (h : Dp K H (.ref a) (.list ((List.range 121).map fun k => PyData.bool (f k)))) : SqL K H a (gL f) := by
  have h2 : Dp K H (.ref a) (.list (((List.range 121).map f).map PyData.bool)) := by rw [List.map_map]; exact h
  have h3 := dp_bools h2
  rw [List.map_map] at h3
  exact h3
theorem sc__law_grid : FnScope ["rect", "k"] ["rect"] (defScope s__law_grid) := ⟨rfl, rfl, rfl, by decide +kernel, rfl, by decide +kernel, by decide +kernel⟩
theorem ok__law_grid (T : Txt K mg A) : FnOk P w K mg base CX0 2 A.f_law_grid A.d_law_grid ["rect"] (sp__law_grid K) := by
  refine T.F_law_grid.ok sc__law_grid (fun vs H Q E h => ?_) (fun cdv Ar outer s H vs Q E hr h => ?_)
  · obtain ⟨_, _, _, _, _, rfl, _⟩ := h
    rfl
  · obtain ⟨p, x, y, wd, ht, rfl, hp, q⟩ := h
    refine ⟨_, (pss_one (ps_ret (pe_lc (own := [("k", 1)]) (g := (gName 1)) (tt := tYes) rfl sc__law_grid.nd (pi_range1 (by rfl) T.range (pa_cons pe_int pa_nil)) (blkOk_by (own := [("k", 1)]) (N := ["rect", "k"]) (sc := defScope s__law_grid) (by decide +kernel)) (fun _ _ _ _ _ => (pg_name (i := 1) sc__law_grid.nd rfl (Or.inl rfl))) (fun _ _ _ _ _ => pts_nil) (fun _ _ _ _ _ => by exact (pe_call (ok__law_in_rect T) (hr.mono (by decide)) rfl T.g_law_in_rect T.k_law_in_rect T.b_law_in_rect .nil pass0 (pa_cons (pv 0) (pa_cons (pe_op op_sub (pe_op op_fdiv (pv 1) pe_int) pe_int) (pa_cons (pe_op op_sub (pe_op op_mod (pe_callTy call_int1 (by rfl) T.int (by decide +kernel) (pa_cons (pv 1) pa_nil)) pe_int) pe_int) pa_nil)))))))), ?_⟩
    refine ⟨121, rfl, by decide, by decide, fun D hD => ?_⟩
    refine lc_dp (walk_range (lo := 0) (n := (121 : Int).toNat)) (K := K) (V0 := H) (H0 := H) (fun i => some (PyData.bool (sqf (rectReg x y wd ht) i))) _ rfl (Same.refl _) hD (by decide) (fun _ _ => trivial) (fun i x H H' y => y.1) ?_ ?_
    · rintro i v U H3 hi xx ⟨_, rfl⟩ Qy Qn hy _
      have hp3 := (xx.hh).sqt hp
      refine ⟨rfl, ?_⟩
      walk_at "go"
      refine ⟨_, x, y, wd, ht, _, _, rfl, hp3, ?_⟩
      refine hy _ _ _ _ rfl (Ext.refl xx.vh) ?_
      show Dp K U (.bl (hasSq (rectReg x y wd ht) ((0 + (i : Int)) / 11 - 1) ((0 + (i : Int)) % 11 - 1))) (.bool (hasSq (rectReg x y wd ht) ((i : Int) / 11 - 1) ((i : Int) % 11 - 1)))
      rw [Int.zero_add]
      exact .bl _
    · rintro U HA ys xx hDU dl dv
      rw [fm_some] at dv
      exact q D HA xx.hh (xx.vh.seq (bools_of dv))
def opD (d : Int) : Bool → Bool → Bool := if d = 0 then and else if d = 1 then (fun a b => a && !b) else or
theorem opD_ff (d : Int) : opD d false false = false := by
  unfold opD; split
  · rfl
  · split <;> rfl
def sp__law_both (K : PySem.W.Frag) : Sp := fun vs H Q _ => ∃ (d : Int) (a b : Bool), vs = [.int d, .bl a, .bl b] ∧ Q (.bl (opD d a b)) H
theorem sc__law_both : FnScope ["deed", "one", "two"] ["deed", "one", "two"] (defScope s__law_both) := ⟨rfl, rfl, rfl, by decide +kernel, rfl, by decide +kernel, by decide +kernel⟩
theorem ok__law_both (T : Txt K mg A) : FnOk P w K mg base CX0 1 A.f_law_both A.d_law_both ["deed", "one", "two"] (sp__law_both K) := by
  refine T.F_law_both.ok sc__law_both (fun vs H Q E h => ?_) (fun cdv Ar outer s H vs Q E hr h => ?_)
  · obtain ⟨_, _, _, rfl, _⟩ := h
    rfl
  · obtain ⟨d, a, b, rfl, q⟩ := h
    refine ⟨_, (pss_cons (ps_if (pt_cmpR op_eq (pv 0) pe_int (nomark _))
      (pss_one (ps_ret (pe_and (pv 1) (pe_one (pv 2)))))
      pss_nil)
      (pss_cons (ps_if (pt_cmpR op_eq (pv 0) pe_int (nomark _))
      (pss_one (ps_ret (pe_and (pv 1) (pe_one (pe_not (pv 2))))))
      pss_nil)
      (pss_one (ps_ret (pe_or (pv 1) (pe_one (pv 2))))))), ?_⟩
    unfold opD at q
    walk_at "go"
    refine iteEq (fun h => ?_) (fun h => ?_)
    · rw [if_pos h] at q
      cases a <;> walk_at "go" <;> exact q
    rw [if_neg h] at q
    walk_at "go"
    refine iteEq (fun h => ?_) (fun h => ?_)
    · rw [if_pos h] at q
      cases a <;> walk_at "go" <;> exact q
    rw [if_neg h] at q
    cases a <;> walk_at "go" <;> exact q
def sp__law_join (K : PySem.W.Frag) : Sp := fun vs H Q _ => ∃ (d : Int) (pa pb : Addr) (fa fb : Nat → Bool), vs = [.int d, .ref pa, .ref pb] ∧ SqL K H pa (gL fa) ∧ SqL K H pb (gL fb) ∧ ∀ p' H', Same H H' → SqL K H' p' (gL fun k => opD d (fa k) (fb k)) → Q (.ref p') H'
theorem sc__law_join : FnScope ["deed", "a", "b", "k"] ["deed", "a", "b"] (defScope s__law_join) := ⟨rfl, rfl, rfl, by decide +kernel, rfl, by decide +kernel, by decide +kernel⟩
theorem ok__law_join (T : Txt K mg A) : FnOk P w K mg base CX0 2 A.f_law_join A.d_law_join ["deed", "a", "b"] (sp__law_join K) := by
  refine T.F_law_join.ok sc__law_join (fun vs H Q E h => ?_) (fun cdv Ar outer s H vs Q E hr h => ?_)
  · obtain ⟨_, _, _, _, _, rfl, _⟩ := h
    rfl
  · obtain ⟨d, pa, pb, fa, fb, rfl, ha, hb, q⟩ := h
    refine ⟨_, (pss_one (ps_ret (pe_lc (own := [("k", 3)]) (g := (gName 3)) (tt := tYes) rfl sc__law_join.nd (pi_range1 (by rfl) T.range (pa_cons pe_int pa_nil)) (blkOk_by (own := [("k", 3)]) (N := ["deed", "a", "b", "k"]) (sc := defScope s__law_join) (by decide +kernel)) (fun _ _ _ _ _ => (pg_name (i := 3) sc__law_join.nd rfl (Or.inl rfl))) (fun _ _ _ _ _ => pts_nil) (fun _ _ _ _ _ => by exact (pe_call (ok__law_both T) (hr.mono (by decide)) rfl T.g_law_both T.k_law_both T.b_law_both .nil pass0 (pa_cons (pv 0) (pa_cons (pe_ix (r := rIxL K) ix_list (pv 1) (pv 3) (fun _ _ => rfl)) (pa_cons (pe_ix (r := rIxL K) ix_list (pv 2) (pv 3) (fun _ _ => rfl)) pa_nil)))))))), ?_⟩
    refine ⟨121, rfl, by decide, by decide, fun D hD => ?_⟩
    refine lc_dp (walk_range (lo := 0) (n := (121 : Int).toNat)) (K := K) (V0 := H) (H0 := H) (fun i => some (PyData.bool (opD d (fa i) (fb i)))) _ rfl (Same.refl _) hD (by decide) (fun _ _ => trivial) (fun i x H H' y => y.1) ?_ ?_
    · rintro i v U H3 hi xx ⟨_, rfl⟩ Qy Qn hy _
      have hi' : i < 121 := by
        have e : (121 : Int).toNat = 121 := rfl
        omega
      have ia : atI (gL fa) (0 + (i : Int)) = some (.bl (fa i)) := at_of (j := i) (Int.zero_add _) (gL_at fa hi')
      have ib : atI (gL fb) (0 + (i : Int)) = some (.bl (fb i)) := at_of (j := i) (Int.zero_add _) (gL_at fb hi')
      refine ⟨rfl, _, rfl, _, rfl, _, rfl, _, _, _, _, rfl, rfl, xx.hh.seq ha, ia, _, rfl, _, rfl, _, _, _, _, rfl, rfl, xx.hh.seq hb, ib, d, fa i, fb i, rfl, ?_⟩
      exact hy _ _ _ _ rfl (Ext.refl xx.vh) (.bl _)
    · rintro U HA ys xx hDU dl dv
      rw [fm_some] at dv
      exact q D HA xx.hh (xx.vh.seq (bools_of dv))
def sp__law_apply (K : PySem.W.Frag) : Sp := fun vs H Q _ => ∃ (d : Int) (Ra Rb : List Band) (va vb : V), vs = [.int d, va, vb] ∧ Dp K H va (regD Ra) ∧ Dp K H vb (regD Rb) ∧ RegOk Ra ∧ RegOk Rb ∧ Pair Ra Rb ∧ ∀ v H', Same H H' → Dp K H' v (regD (cmbR (opD d) Ra Rb)) → Q v H'
theorem sc__law_apply : FnScope ["deed", "a", "b"] ["deed", "a", "b"] (defScope s__law_apply) := ⟨rfl, rfl, rfl, by decide +kernel, rfl, by decide +kernel, by decide +kernel⟩
theorem ok__law_apply (T : Txt K mg A) : FnOk P w K mg base CX0 6 A.f_law_apply A.d_law_apply ["deed", "a", "b"] (sp__law_apply K) := by
  refine T.F_law_apply.ok sc__law_apply (fun vs H Q E h => ?_) (fun cdv Ar outer s H vs Q E hr h => ?_)
  · obtain ⟨_, _, _, _, _, rfl, _⟩ := h
    rfl
  · obtain ⟨d, Ra, Rb, va, vb, rfl, da, db, oa, ob, pr, q⟩ := h
    refine ⟨_, (pss_cons (ps_if (pt_cmpR op_eq (pv 0) pe_int (nomark _))
      (pss_one (ps_ret (pe_call (ok_common T) (hr.mono (by decide)) rfl T.gcommon T.kcommon T.bcommon .nil pass0 (pa_cons (pv 1) (pa_cons (pv 2) pa_nil)))))
      pss_nil)
      (pss_cons (ps_if (pt_cmpR op_eq (pv 0) pe_int (nomark _))
      (pss_one (ps_ret (pe_call (ok_without T) (hr.mono (by decide)) rfl T.gwithout T.kwithout T.bwithout .nil pass0 (pa_cons (pv 1) (pa_cons (pv 2) pa_nil)))))
      pss_nil)
      (pss_one (ps_ret (pe_call (ok_united T) (hr.mono (by decide)) rfl T.gunited T.kunited T.bunited .nil pass0 (pa_cons (pv 1) (pa_cons (pv 2) pa_nil))))))), ?_⟩
    have fin : ∀ op, op = opD d → ∀ v U' H', Ext H H U' H' → Dp K U' v (regD (cmbR op Ra Rb)) → Q v H' := by
      rintro op rfl v U' H' x dv; exact q v H' x.hh (dv.to x.vh)
    unfold opD at fin
    walk_at "go"
    refine iteEq (fun h => ?_) (fun h => ?_)
    · exact ⟨_, rfl, _, rfl, Ra, Rb, va, vb, H, rfl, Same.refl _, da, db, oa, ob, pr, fin _ (by rw [if_pos h])⟩
    walk_at "go"
    refine iteEq (fun h1 => ?_) (fun h1 => ?_)
    · exact ⟨_, rfl, _, rfl, Ra, Rb, va, vb, H, rfl, Same.refl _, da, db, oa, ob, pr, fin _ (by rw [if_neg h, if_pos h1])⟩
    · exact ⟨_, rfl, _, rfl, Ra, Rb, va, vb, H, rfl, Same.refl _, da, db, oa, ob, pr, fin _ (by rw [if_neg h, if_neg h1])⟩
/-! ### a region agrees with a grid -/
theorem neI {x y : V} {A B : Prop} (h1 : x ≠ y → A) (h2 : x = y → B) : if (!decide (x = y)) = true then A else B := by
  by_cases h : x = y
  · rw [decide_eq_true h]; exact iteF (h2 h)
  · rw [decide_eq_false h]; exact iteT (h1 h)
def sp__law_grid_good (K : PySem.W.Frag) : Sp := fun vs H Q _ => ∃ (v : V) (R : List Band) (pg : Addr), vs = [v, .ref pg] ∧ Dp K H v (regD R) ∧ Box R ∧ SqL K H pg (gL (sqf R)) ∧ ∀ H', Same H H' → Q (.bl true) H'
theorem sc__law_grid_good : FnScope ["region", "grid", "k"] ["region", "grid"] (defScope s__law_grid_good) := ⟨rfl, rfl, rfl, by decide +kernel, rfl, by decide +kernel, by decide +kernel⟩
theorem ok__law_grid_good (T : Txt K mg A) : FnOk P w K mg base CX0 2 A.f_law_grid_good A.d_law_grid_good ["region", "grid"] (sp__law_grid_good K) := by
  refine T.F_law_grid_good.ok sc__law_grid_good (fun vs H Q E h => ?_) (fun cdv Ar outer s H vs Q E hr h => ?_)
  · obtain ⟨_, _, _, rfl, _⟩ := h
    rfl
  · obtain ⟨v, R, pg, rfl, dv, bR, sg, q⟩ := h
    refine ⟨_, (pss_cons (ps_for PassesOwn.never rfl (pi_range1 (by rfl) T.range (pa_cons pe_int pa_nil)) (pg_name (i := 2) sc__law_grid_good.nd rfl (Or.inl rfl))
      (pss_one (ps_if (pt_cmpR op_ne (pe_call (ok_has_square T) (hr.mono (by decide)) rfl T.ghas_square T.khas_square T.bhas_square .nil pass0 (pa_cons (pv 0) (pa_cons (pe_op op_sub (pe_op op_fdiv (pv 2) pe_int) pe_int) (pa_cons (pe_op op_sub (pe_op op_mod (pe_callTy call_int1 (by rfl) T.int (by decide +kernel) (pa_cons (pv 2) pa_nil)) pe_int) pe_int) pa_nil)))) (pe_ix (r := rIxL K) ix_list (pv 1) (pv 2) (fun _ _ => rfl)) (nomark _))
      (pss_one (ps_ret pe_bl))
      pss_nil)))
      (pss_one (ps_ret pe_bl))), ?_⟩
    walk_at "go"
    refine ⟨by decide, by decide, for_range (lo := 0) (fun i σ H' => ∃ v2 : Option V, σ = [some v, some (.ref pg), v2] ∧ Same H H') ⟨_, rfl, Same.refl _⟩ ?_ ?_⟩
    · rintro i σ H1 hi ⟨v2, rfl, s1⟩
      have hi' : i < 121 := by
        have e : (121 : Int).toNat = 121 := rfl
        omega
      have ig : atI (gL (sqf R)) (0 + (i : Int)) = some (.bl (sqf R i)) := at_of (j := i) (Int.zero_add _) (gL_at (sqf R) hi')
      walk_at "go"
      refine ⟨_, R, _, _, rfl, dv.to s1, fun b hb => Nat.lt_trans (bR.ok.fews b hb) (by decide), fun H2 s2 => ?_⟩
      have g2 := s2.seq (s1.seq sg)
      refine ⟨_, rfl, _, rfl, _, _, _, _, rfl, rfl, g2, ig, ?_⟩
      refine ⟨rfl, _, rfl, ?_⟩
      refine neI (fun h => absurd ?_ h) fun _ => ?_
      · show V.bl (hasSq R ((0 + (i : Int)) / 11 - 1) ((0 + (i : Int)) % 11 - 1)) = V.bl (hasSq R ((i : Int) / 11 - 1) ((i : Int) % 11 - 1))
        rw [Int.zero_add]
      · exact ⟨_, rfl, s1.trans s2⟩
    · rintro σ H1 ⟨v2, rfl, s1⟩
      exact q _ s1
/-! ### the one form -/
structure Can (R : List Band) : Prop where
  box : Box R
  sp : ∀ b ∈ R, Ch spC b.2.2
  bd : Ch bdC R
  ne : ∀ b ∈ R, b.2.2 ≠ []
theorem Can.nil : Can [] := ⟨Box.nil, fun b hb => (by cases hb), fun i p q hp => (by cases hp), fun b hb => (by cases hb)⟩
theorem Can.cmb {A B : List Band} (op : Bool → Bool → Bool) (ha : Box A) (hb : Box B) : Can (cmbR op A B) := by
  refine ⟨ha.cmb op hb, fun z hz => ?_, cmbR_chain op A B, fun z hz => ?_⟩
  · obtain ⟨_, p, e⟩ := (cmbR_rows op A B).2 z hz
    rw [e]; exact cmbS_chain _ _ _
  · obtain ⟨q, hq, e⟩ := merge_pay bdC bdJ (fun b : Band => b.2.2) (fun _ _ => rfl) _ _ rfl z hz
    have hn := (List.mem_filter.mp hq).2
    have e' : z.2.2 = q.2.2 := e
    rw [e']
    intro h0
    rw [h0] at hn
    exact absurd hn (by decide)
theorem Can.u {R : List Band} (h : Can R) : CanU R := ⟨h.box.rows, fun b hb => ⟨(h.box.sps b hb).pos, gap (h.box.sps b hb) (h.sp b hb)⟩, h.bd, h.ne⟩
/-! ### regions made, in the one form -/
theorem sqf_cmb (d : Int) (A B : List Band) : (fun k => opD d (sqf A k) (sqf B k)) = sqf (cmbR (opD d) A B) := funext fun k => (cmbR_sq _ (opD_ff d) A B _ _).symm
theorem opD_of {d e : Int} (h : d = e) : opD d = opD e := by rw [h]
def sp__law_made (K : PySem.W.Frag) : Sp := fun vs H Q _ => ∃ (a : Addr) (ns : List Int) (first many : Nat), vs = [.ref a, .int (first : Int), .int (many : Int)] ∧ SqL K H a (ns.map V.int) ∧ first < 1000 ∧ many < 1000 ∧ ∀ p v pg R H', Same H H' → SqT K H' p [v, .ref pg] → Dp K H' v (regD R) → Can R → SqL K H' pg (gL (sqf R)) → Q (.ref p) H'
theorem sc__law_made : FnScope ["script", "first", "many", "region", "grid", "k", "row", "rect", "part"] ["script", "first", "many"] (defScope s__law_made) := ⟨rfl, rfl, rfl, by decide +kernel, rfl, by decide +kernel, by decide +kernel⟩
theorem ok__law_made (T : Txt K mg A) : FnOk P w K mg base CX0 7 A.f_law_made A.d_law_made ["script", "first", "many"] (sp__law_made K) := by
  refine T.F_law_made.ok sc__law_made (fun vs H Q E h => ?_) (fun cdv Ar outer s H vs Q E hr h => ?_)
  · obtain ⟨_, _, _, _, rfl, _⟩ := h
    rfl
  · obtain ⟨a, ns, first, many, rfl, hS, h1, h2, q⟩ := h
    refine ⟨_, (pss_cons (ps_set (i := 3) sc__law_made.nd rfl (Or.inl rfl) (pe_lst pa_nil))
      (pss_cons (ps_setLc (i := 4) (own := [("k", 5)]) (g := (gName 5)) (tt := tYes) rfl sc__law_made.nd rfl rfl (sw_true rfl rfl rfl (by decide +kernel)) (pi_range1 (by rfl) T.range (pa_cons pe_int pa_nil)) (blkOk_by (own := [("k", 5)]) (N := ["script", "first", "many", "region", "grid", "k", "row", "rect", "part"]) (sc := defScope s__law_made) (by decide +kernel)) (fun _ _ _ _ _ => (pg_name (i := 5) sc__law_made.nd rfl (Or.inl rfl))) (fun _ _ _ _ _ => pts_nil) (fun _ _ _ _ _ => by exact pe_bl))
      (pss_cons (ps_for PassesOwn.never rfl (pi_range2 (by rfl) T.range (pa_cons (pv 1) (pa_cons (pe_op op_add (pv 1) (pv 2)) pa_nil))) (pg_name (i := 5) sc__law_made.nd rfl (Or.inl rfl))
      (pss_cons (ps_set (i := 6) sc__law_made.nd rfl (Or.inl rfl) (pe_call (ok__law_row T) (hr.mono (by decide)) rfl T.g_law_row T.k_law_row T.b_law_row .nil pass0 (pa_cons (pv 0) (pa_cons (pv 5) pa_nil))))
      (pss_cons (ps_set (i := 7) sc__law_made.nd rfl (Or.inl rfl) (pe_call (ok__law_rect T) (hr.mono (by decide)) rfl T.g_law_rect T.k_law_rect T.b_law_rect .nil pass0 (pa_cons (pv 6) pa_nil)))
      (pss_cons (ps_set (i := 8) sc__law_made.nd rfl (Or.inl rfl) (pe_call (ok_rectangle_region T) (hr.mono (by decide)) rfl T.grectangle_region T.krectangle_region T.brectangle_region .nil pass0 (pa_cons (pe_ix (r := rIxT K) ix_tup (pv 7) pe_int (fun _ _ => rfl)) (pa_cons (pe_ix (r := rIxT K) ix_tup (pv 7) pe_int (fun _ _ => rfl)) (pa_cons (pe_ix (r := rIxT K) ix_tup (pv 7) pe_int (fun _ _ => rfl)) (pa_cons (pe_ix (r := rIxT K) ix_tup (pv 7) pe_int (fun _ _ => rfl)) pa_nil))))))
      (pss_cons (ps_set (i := 3) sc__law_made.nd rfl (Or.inl rfl) (pe_call (ok__law_apply T) (hr.mono (by decide)) rfl T.g_law_apply T.k_law_apply T.b_law_apply .nil pass0 (pa_cons (pe_op op_mod (pe_callTy call_int1 (by rfl) T.int (by decide +kernel) (pa_cons (pe_op op_fdiv (pv 6) pe_int) pa_nil)) pe_int) (pa_cons (pv 3) (pa_cons (pv 8) pa_nil)))))
      (pss_one (ps_set (i := 4) sc__law_made.nd rfl (Or.inl rfl) (pe_call (ok__law_join T) (hr.mono (by decide)) rfl T.g_law_join T.k_law_join T.b_law_join .nil pass0 (pa_cons (pe_op op_mod (pe_callTy call_int1 (by rfl) T.int (by decide +kernel) (pa_cons (pe_op op_fdiv (pv 6) pe_int) pa_nil)) pe_int) (pa_cons (pv 4) (pa_cons (pe_call (ok__law_grid T) (hr.mono (by decide)) rfl T.g_law_grid T.k_law_grid T.b_law_grid .nil pass0 (pa_cons (pv 7) pa_nil)) pa_nil)))))))))))
      (pss_one (ps_ret (pe_tup (pa_cons (pv 3) (pa_cons (pv 4) pa_nil)))))))), ?_⟩
    walk_at "go"
    rename_i pr hpr
    refine ⟨by decide, by decide, fun D hD => ?_⟩
    refine lc_dp (walk_range (lo := 0) (n := (121 : Int).toNat)) (K := K) (V0 := upd H pr (.lst [])) (H0 := upd H pr (.lst [])) (fun i => some (PyData.bool (sqf [] i))) _ rfl (Same.refl _) hD (by decide) (fun _ _ => trivial) (fun i x H H' y => y.1) ?_ ?_
    · rintro i v U H3 hi xx ⟨_, rfl⟩ Qy Qn hy _
      exact ⟨rfl, hy _ _ _ _ rfl (Ext.refl xx.vh) (.bl _)⟩
    · rintro U HA ys xx hDU dl dv
      rw [fm_some] at dv
      have hg := xx.vh.seq (bools_of dv)
      have sA : Same H HA := (same_upd hpr).trans xx.hh
      have dr : Dp K HA (.ref pr) (regD []) := .to (.lst (SqL.of upd_same) .nil) xx.hh
      clear dv
      walk_at "go"
      refine ⟨by omega, for_range (lo := (first : Int)) (fun i σ H' => ∃ (v : V) (pg : Addr) (R : List Band) (v5 v6 v7 v8 : Option V), σ = [some (.ref a), some (.int first), some (.int many), some v, some (.ref pg), v5, v6, v7, v8] ∧ Same H H' ∧ Dp K H' v (regD R) ∧ Can R ∧ SqL K H' pg (gL (sqf R))) ⟨_, _, [], _, _, _, _, rfl, sA, dr, Can.nil, hg⟩ ?_ ?_⟩
      · rintro i σ H1 hi ⟨v, pg, R, v5, v6, v7, v8, rfl, s1, d1, b1, g1⟩
        refine ⟨_, rfl, _, rfl, a, ns, first + i, by show [V.ref a, V.int ((first : Int) + (i : Int))] = [V.ref a, V.int ((first + i : Nat) : Int)]; rw [Int.natCast_add], s1.seq hS, ?_⟩
        generalize lawRow ns (first + i) = row
        refine ⟨_, rfl, row, rfl, fun p2 H2 s2 e2 => ?_⟩
        have t2 : SqT K H2 p2 (rcV row) := SqT.of e2
        walk_at "go"
        refine ⟨rcX row, rcY row, rcW row, rcH row, H2, rfl, Same.refl _, fun v8 U8 H8 x8 d8 => ?_⟩
        have s8 := s2.trans x8.hh
        have d8' : Dp K H8 v8 (regD (rcR row)) := d8.to x8.vh
        have t8 := x8.hh.sqt t2
        walk_at "go"
        refine ⟨_, R, rcR row, _, _, rfl, d1.to s8, d8', b1.box.ok, (rc_box row).ok, b1.box.pair (rc_box row), fun v9 H9 s9 d9 => ?_⟩
        have t9 := s9.sqt t8
        have g9 := s9.seq (s8.seq g1)
        walk_at "go"
        refine ⟨p2, _, _, _, _, rfl, t9, fun p10 H10 s10 g10 => ?_⟩
        refine ⟨_, pg, p10, sqf R, sqf (rcR row), rfl, s10.seq g9, g10, fun p11 H11 s11 g11 => ?_⟩
        rw [sqf_cmb] at g11
        exact ⟨v9, p11, _, _, _, _, _, rfl, ((s1.trans (s8.trans s9)).trans s10).trans s11, (d9.to s10).to s11, Can.cmb _ b1.box (rc_box row), g11⟩
      · rintro σ H1 ⟨v, pg, R, v5, v6, v7, v8, rfl, s1, d1, b1, g1⟩
        walk_at "go"
        rename_i pz hpz
        exact q pz v pg R _ (s1.trans (same_upd hpz)) (SqT.of upd_same) (d1.to (same_upd hpz)) b1 ((same_upd hpz).seq g1)
/-! ### regions whose edges lie in two lists, in the one form -/
structure RegIn (X Y : List Int) (R : List Band) : Prop where
  u : CanU R
  ys : ∀ b ∈ R, b.1 ∈ Y ∧ b.2.1 ∈ Y
  xs : ∀ b ∈ R, ∀ s ∈ b.2.2, s.1 ∈ X ∧ s.2 ∈ X
theorem rows_len {r : Type} {lo hi : r → Int} {l : List r} {Y : List Int} (R : Rows lo hi l) (h : ∀ q ∈ l, lo q ∈ Y) : l.length ≤ Y.length := by
  have hn : (l.map lo).Nodup := List.pairwise_map.mpr ((List.Pairwise.and_mem.mp R.ord).imp fun {p q} z => by
    have := R.pos p z.1
    intro e
    have := z.2.2
    omega)
  have := nodup_few (l.map lo) Y hn fun k hk => by
    obtain ⟨q, hq, rfl⟩ := List.mem_map.mp hk
    exact h q hq
  rwa [List.length_map] at this
theorem RegIn.ok {X Y : List Int} {R : List Band} (h : RegIn X Y R) (hx : X.length < 64) (hy : Y.length < 64) : RegOk R := by
  refine ⟨h.u.rows, fun b hb => (h.u.gap b hb).rows, ?_, fun b hb => ?_, fun b hb => (h.u.gap b hb).gap⟩
  · have := rows_len h.u.rows fun q hq => (h.ys q hq).1
    omega
  · have := rows_len (h.u.gap b hb).rows fun q hq => (h.xs b hb q hq).1
    omega
theorem RegIn.edge {X Y : List Int} {A B : List Band} (ha : RegIn X Y A) (hb : RegIn X Y B) : (∀ k ∈ edgeL bLo bHi A B, k ∈ Y) ∧ ∀ p, ∀ k ∈ edgeL Prod.fst Prod.snd (spansOf (rowAt bLo bHi A p)) (spansOf (rowAt bLo bHi B p)), k ∈ X := by
  have sp : ∀ {R : List Band}, RegIn X Y R → ∀ p, ∀ s ∈ spansOf (rowAt bLo bHi R p), s.1 ∈ X ∧ s.2 ∈ X := fun {R} hR p s hs => by
    cases e : rowAt bLo bHi R p with
    | none => rw [e] at hs; cases hs
    | some b =>
      rw [e] at hs
      exact hR.xs b (List.mem_of_find?_eq_some e) s hs
  refine ⟨fun k hk => ?_, fun p k hk => ?_⟩
  · unfold edgeL at hk
    simp only [List.mem_append, List.mem_map] at hk
    rcases hk with ((⟨b, h, rfl⟩ | ⟨b, h, rfl⟩) | ⟨b, h, rfl⟩) | ⟨b, h, rfl⟩
    · exact (ha.ys b h).1
    · exact (ha.ys b h).2
    · exact (hb.ys b h).1
    · exact (hb.ys b h).2
  · unfold edgeL at hk
    simp only [List.mem_append, List.mem_map] at hk
    rcases hk with ((⟨b, h, rfl⟩ | ⟨b, h, rfl⟩) | ⟨b, h, rfl⟩) | ⟨b, h, rfl⟩
    · exact (sp ha p b h).1
    · exact (sp ha p b h).2
    · exact (sp hb p b h).1
    · exact (sp hb p b h).2
theorem RegIn.pair {X Y : List Int} {A B : List Band} (ha : RegIn X Y A) (hb : RegIn X Y B) (hx : X.length < 64) (hy : Y.length < 64) : Pair A B :=
  ⟨⟨Y, (ha.edge hb).1, hy⟩, fun p => ⟨X, (ha.edge hb).2 p, hx⟩⟩
theorem RegIn.cmb {X Y : List Int} {A B : List Band} (op : Bool → Bool → Bool) (ha : RegIn X Y A) (hb : RegIn X Y B) : RegIn X Y (cmbR op A B) := by
  refine ⟨cmbR_u op A B, fun z hz => ?_, fun z hz s hs => ?_⟩
  · obtain ⟨⟨e1, e2⟩, _⟩ := (cmbR_rows op A B).2 z hz
    exact ⟨(ha.edge hb).1 _ e1, (ha.edge hb).1 _ e2⟩
  · obtain ⟨_, p, e⟩ := (cmbR_rows op A B).2 z hz
    rw [e] at hs
    obtain ⟨m1, m2⟩ := (cmbS_rows op _ _).2 s hs
    exact ⟨(ha.edge hb).2 p _ m1, (ha.edge hb).2 p _ m2⟩
theorem RegIn.nil (X Y : List Int) : RegIn X Y [] := ⟨⟨⟨fun q hq => (by cases hq), List.Pairwise.nil⟩, fun b hb => (by cases hb), fun i p q hp => (by cases hp), fun b hb => (by cases hb)⟩, fun b hb => (by cases hb), fun b hb => (by cases hb)⟩
theorem RegIn.mono {X Y X' Y' : List Int} {R : List Band} (h : RegIn X Y R) (hx : ∀ k ∈ X, k ∈ X') (hy : ∀ k ∈ Y, k ∈ Y') : RegIn X' Y' R :=
  ⟨h.u, fun b hb => ⟨hy _ (h.ys b hb).1, hy _ (h.ys b hb).2⟩, fun b hb s hs => ⟨hx _ (h.xs b hb s hs).1, hx _ (h.xs b hb s hs).2⟩⟩
theorem Can.reg {R : List Band} (h : Can R) : RegIn sides sides R := by
  refine ⟨h.u, fun b hb => ?_, fun b hb s hs => ?_⟩
  · have h1 := h.box.bs b hb
    have h2 : b.1 < b.2.1 := h.box.rows.pos b hb
    exact ⟨in_sides (by omega), in_sides (by omega)⟩
  · have h1 := (h.box.bs b hb).2.2 s hs
    have h2 : s.1 < s.2 := (h.box.sps b hb).pos s hs
    exact ⟨in_sides (by omega), in_sides (by omega)⟩
/-! ### shifted, scaled -/
def rTupOf (K : PySem.W.Frag) : List V → Hp → VK → Prop := fun xs H Q => ∃ p ys, xs = [V.ref p] ∧ ((SqL K H p ys ∧ ∀ l : Addr, H l = none → Q (V.ref l) (upd H l (HO.tup ys))) ∨ SqT K H p ys ∧ Q (V.ref p) H)
def mapB (f g : Int → Int) (b : Band) : Band := (g b.1, g b.2.1, b.2.2.map fun s => (f s.1, f s.2))
def sp_mapR (K : PySem.W.Frag) (args : List Int) (f g : Int → Int) : Sp := fun vs H Q _ => ∃ (r : V) (R : List Band), vs = r :: args.map V.int ∧ Dp K H r (regD R) ∧ RegOk R ∧ ∀ v H', Same H H' → Dp K H' v (regD (R.map (mapB f g))) → Q v H'
def sp_shifted (K : PySem.W.Frag) : Sp := fun vs H Q E => ∃ dx dy : Int, sp_mapR K [dx, dy] (fun z => z + dx) (fun z => z + dy) vs H Q E
def sp_scaled (K : PySem.W.Frag) : Sp := fun vs H Q E => ∃ n : Int, (0 < n ∧ n < 100) ∧ sp_mapR K [n] (fun z => n * z) (fun z => n * z) vs H Q E
theorem sc_shifted : FnScope ["region", "dx", "dy", "begin", "end", "top", "bottom", "spans"] ["region", "dx", "dy"] (defScope s_shifted) := ⟨rfl, rfl, rfl, by decide +kernel, rfl, by decide +kernel, by decide +kernel⟩
theorem ok_shifted (T : Txt K mg A) : FnOk P w K mg base CX0 1 A.fshifted A.dshifted ["region", "dx", "dy"] (sp_shifted K) := by
  refine T.Fshifted.ok sc_shifted (fun vs H Q E h => ?_) (fun cdv Ar outer s H vs Q E hr h => ?_)
  · obtain ⟨_, _, _, _, rfl, _⟩ := h
    rfl
  · obtain ⟨dx, dy, r, R, rfl, dR, oR, q⟩ := h
    obtain ⟨pa, xa, rfl, hpa, hxa⟩ := dp_list dR
    have lx : xa.length = R.length := by rw [dpall_len hxa, List.length_map]
    have fw := oR.few
    refine ⟨_, (pss_one (ps_ret (pe_lc (own := [("top", 5), ("bottom", 6), ("spans", 7)]) (g := (gTup K 3 (gCons (gName 5) (gCons (gName 6) (gCons (gName 7) gNil))))) (tt := tYes) rfl sc_shifted.nd (pi_list (pv 0)) (blkOk_by (own := [("top", 5), ("bottom", 6), ("spans", 7)]) (N := ["region", "dx", "dy", "begin", "end", "top", "bottom", "spans"]) (sc := defScope s_shifted) (by decide +kernel)) (fun _ _ _ _ _ => by exact (pg_tup rfl (pgs_cons (pg_name (i := 5) sc_shifted.nd rfl (Or.inl rfl)) (pgs_cons (pg_name (i := 6) sc_shifted.nd rfl (Or.inl rfl)) (pgs_cons (pg_name (i := 7) sc_shifted.nd rfl (Or.inl rfl)) pgs_nil))))) (fun _ _ _ _ _ => pts_nil) (fun _ _ _ _ _ => by exact (pe_tup (pa_cons (pe_op op_add (pv 5) (pv 2)) (pa_cons (pe_op op_add (pv 6) (pv 2)) (pa_cons (pe_callTy (r := rTupOf K) call_tuple_of (by rfl) T.tuple (by decide +kernel) (pa_cons (pe_lc (wi := iTup K (tVar 7)) (own := [("begin", 3), ("end", 4)]) (g := (gTup K 2 (gCons (gName 3) (gCons (gName 4) gNil)))) (tt := tYes) rfl sc_shifted.nd (pi_tup (pv 7)) (blkOk_by (own := [("begin", 3), ("end", 4)]) (N := ["region", "dx", "dy", "begin", "end", "top", "bottom", "spans"]) (sc := { kind := ScopeKind.function, names := [(".0", NameKind.local), ("top", NameKind.local), ("bottom", NameKind.local), ("spans", NameKind.local), ("tuple", NameKind.globalImplicit), ("dx", NameKind.cell), ("dy", NameKind.cell)], isGenerator := false, isCoroutine := false }) (by decide +kernel)) (fun _ _ _ _ _ => by exact (pg_tup rfl (pgs_cons (pg_name (i := 3) sc_shifted.nd rfl (Or.inl rfl)) (pgs_cons (pg_name (i := 4) sc_shifted.nd rfl (Or.inl rfl)) pgs_nil)))) (fun _ _ _ _ _ => pts_nil) (fun _ _ _ _ _ => by exact (pe_tup (pa_cons (pe_op op_add (pv 3) (pv 1)) (pa_cons (pe_op op_add (pv 4) (pv 1)) pa_nil))))) pa_nil)) pa_nil)))))))), ?_⟩
    refine ⟨_, rfl, pa, rfl, ⟨_, hpa⟩, fun D hD => ?_⟩
    refine lc_dp (walk_list (K := K) (a := pa) (xs := xa)) (K := K) (V0 := H) (H0 := H) (fun i => (R[i]?).map fun b => bandD (mapB (fun z => z + dx) (fun z => z + dy) b)) _ rfl (Same.refl _) hD (by omega) (fun H' s => s.seq hpa) (fun i x H H' y => y.1) ?_ ?_
    · rintro j v V3 H3 hj x3 ⟨_, hv⟩ Qy Qn hy _
      obtain ⟨d, hd, dv⟩ := dpall_get hxa hv
      rw [List.getElem?_map] at hd
      obtain ⟨b, hb, rfl⟩ := Option.map_eq_some_iff.mp hd
      obtain ⟨ab, p, ss, rfl, qa, qp, qs⟩ := dp_band dv
      have fs := oR.fews b (List.mem_of_getElem? hb)
      have lss : ss.length = b.2.2.length := by rw [dpall_len qs, List.length_map]
      have qp3 := x3.hh.sqt qp
      refine ⟨ab, _, rfl, x3.hh.sqt qa, rfl, _, _, rfl, _, _, rfl, _, _, rfl, rfl, rfl, ?_⟩
      refine ⟨_, rfl, _, rfl, _, _, rfl, rfl, _, rfl, _, rfl, _, _, rfl, rfl, _, rfl, p, rfl, ⟨_, qp3⟩, fun D2 hD2 => ?_⟩
      refine lc_dp (walk_tup (K := K) (a := p) (xs := ss)) (K := K) (V0 := V3) (H0 := H3) (fun i => (b.2.2[i]?).map fun s => spanD (s.1 + dx, s.2 + dx)) _ rfl x3.vh hD2 (by omega) (fun H' s => s.sqt qp3) (fun i x H H' y => y.1) ?_ ?_
      · rintro k v V4 H4 hk x4 ⟨_, hv⟩ Qy2 Qn2 hy2 _
        obtain ⟨d, hd, dv⟩ := dpall_get qs hv
        rw [List.getElem?_map] at hd
        obtain ⟨sp, hsp, rfl⟩ := Option.map_eq_some_iff.mp hd
        obtain ⟨as, rfl, qsp⟩ := dp_span dv
        refine ⟨as, _, rfl, x4.hh.sqt (x3.hh.sqt qsp), rfl, _, _, rfl, _, _, rfl, rfl, rfl, _, rfl, _, rfl, _, _, rfl, rfl, _, rfl, _, rfl, _, _, rfl, rfl, len_line (by show 2 ≤ 100000; decide), fun pt nt => ?_⟩
        exact hy2 (spanD (sp.1 + dx, sp.2 + dx)) _ _ _ (by rw [hsp]; rfl) (Ext.new x4.vh nt) (mk_span (SqT.of upd_same))
      · rintro V5 H5 zs x5 hz d5 _
        rw [lss, fm_map] at d5
        refine ⟨D2, zs, rfl, .inl ⟨x5.vh.seq (SqL.of hz), fun lt ht => ⟨len_line (by show 3 ≤ 100000; decide), fun pt nt => ?_⟩⟩⟩
        have x6 := x5.trans (Ext.new (o := .tup zs) x5.vh ht)
        have x7 := x6.trans (Ext.new (o := .tup [.int (b.1 + dy), .int (b.2.1 + dy), .ref lt]) x6.vh nt)
        have s6 := same_upd (o := .tup zs) (none_of_same x5.vh ht)
        have s7 := same_upd (o := .tup [.int (b.1 + dy), .int (b.2.1 + dy), .ref lt]) (none_of_same x6.vh nt)
        refine hy (bandD (mapB (fun z => z + dx) (fun z => z + dy) b)) _ _ _ (by rw [hb]; rfl) x7 (mk_band (b := mapB (fun z => z + dx) (fun z => z + dy) b) (SqT.of upd_same) (s7.sqt (SqT.of upd_same)) ?_)
        show DpAll K _ zs ((b.2.2.map fun s => (s.1 + dx, s.2 + dx)).map spanD)
        rw [List.map_map]
        exact (d5.to s6).to s7
    · rintro U HA ys xx _ _ dv
      rw [lx, fm_map] at dv
      refine q _ _ xx.hh (dv.to xx.vh |> fun z => ?_)
      unfold regD; rw [List.map_map]; exact z
/-! ### a shifted region keeps the one form -/
theorem shiftS_inj (dx : Int) : ∀ l m : List Span, l.map (fun s : Span => (s.1 + dx, s.2 + dx)) = m.map (fun s : Span => (s.1 + dx, s.2 + dx)) → l = m
  | [], [], _ => rfl
  | [], _ :: _, h => by cases h
  | _ :: _, [], h => by cases h
  | s :: l, t :: m, h => by
    rw [List.map_cons, List.map_cons] at h
    injection h with h1 h2
    have e1 : s.1 + dx = t.1 + dx := congrArg Prod.fst h1
    have e2 : s.2 + dx = t.2 + dx := congrArg Prod.snd h1
    have e3 : s = t := Prod.ext (by omega) (by omega)
    rw [shiftS_inj dx l m h2, e3]
theorem CanU.shift {R : List Band} (h : CanU R) (dx dy : Int) : CanU (R.map (mapB (fun z => z + dx) (fun z => z + dy))) := by
  refine ⟨⟨fun q hq => ?_, List.pairwise_map.mpr (h.rows.ord.imp fun {p q} z => ?_)⟩, fun q hq => ?_, fun i p q hp hq => ?_, fun q hq => ?_⟩
  · obtain ⟨b, hb, rfl⟩ := List.mem_map.mp hq
    have : b.1 < b.2.1 := h.rows.pos b hb
    show b.1 + dy < b.2.1 + dy
    omega
  · have z' : p.2.1 ≤ q.1 := z
    show p.2.1 + dy ≤ q.1 + dy
    omega
  · obtain ⟨b, hb, rfl⟩ := List.mem_map.mp hq
    have g := h.gap b hb
    refine ⟨fun s hs => ?_, List.pairwise_map.mpr (g.gap.imp fun {s t} z => by show s.2 + dx < t.1 + dx; omega)⟩
    obtain ⟨s', hs', rfl⟩ := List.mem_map.mp hs
    have := g.pos s' hs'
    show s'.1 + dx < s'.2 + dx
    omega
  · rw [List.getElem?_map] at hp hq
    obtain ⟨b, hb, rfl⟩ := Option.map_eq_some_iff.mp hp
    obtain ⟨c, hc, rfl⟩ := Option.map_eq_some_iff.mp hq
    have k := h.ch i b c hb hc
    unfold bdC at k ⊢
    rw [← Bool.not_eq_true, Bool.and_eq_true, decide_eq_true_eq, decide_eq_true_eq] at k ⊢
    intro ⟨k1, k2⟩
    have k1' : b.2.1 + dy = c.1 + dy := k1
    have k2' : b.2.2.map (fun s : Span => (s.1 + dx, s.2 + dx)) = c.2.2.map (fun s : Span => (s.1 + dx, s.2 + dx)) := k2
    exact k ⟨by omega, shiftS_inj dx _ _ k2'⟩
  · obtain ⟨b, hb, rfl⟩ := List.mem_map.mp hq
    intro e
    exact h.ne b hb (List.map_eq_nil_iff.mp e)
theorem RegIn.shift {X Y : List Int} {R : List Band} (h : RegIn X Y R) (dx dy : Int) : RegIn (X.map fun z => z + dx) (Y.map fun z => z + dy) (R.map (mapB (fun z => z + dx) (fun z => z + dy))) := by
  refine ⟨h.u.shift dx dy, fun q hq => ?_, fun q hq s hs => ?_⟩
  · obtain ⟨b, hb, rfl⟩ := List.mem_map.mp hq
    exact ⟨List.mem_map_of_mem (h.ys b hb).1, List.mem_map_of_mem (h.ys b hb).2⟩
  · obtain ⟨b, hb, rfl⟩ := List.mem_map.mp hq
    obtain ⟨t, ht, rfl⟩ := List.mem_map.mp hs
    exact ⟨List.mem_map_of_mem (h.xs b hb t ht).1, List.mem_map_of_mem (h.xs b hb t ht).2⟩
/-! ### a call of an operation, its result in the one form -/
/-- of a value's region: in the one form, its edges in two lists -/
structure RegV (X Y : List Int) (v : V) (R : List Band) : Prop where
  r : RegIn X Y R
theorem go_op {op : Bool → Bool → Bool} {X Y : List Int} {K : PySem.W.Frag} {Ra Rb : List Band} {va vb : V} {H : Hp} {Q : VK} (hxy : X.length < 64 ∧ Y.length < 64)
    (da : Dp K H va (regD Ra)) (db : Dp K H vb (regD Rb)) (ha : RegV X Y va Ra) (hb : RegV X Y vb Rb) (k : ∀ v H', Same H H' → Dp K H' v (regD (cmbR op Ra Rb)) → RegV X Y v (cmbR op Ra Rb) → Q v H') : sp_op2 op K [va, vb] H Q E0 :=
  ⟨Ra, Rb, va, vb, H, rfl, Same.refl _, da, db, ha.r.ok hxy.1 hxy.2, hb.r.ok hxy.1 hxy.2, ha.r.pair hb.r hxy.1 hxy.2, fun v U' H' x d => k v H' x.hh (d.to x.vh) ⟨ha.r.cmb op hb.r⟩⟩
theorem alg {X Y : List Int} {A B : List Band} (ha : RegIn X Y A) (hb : RegIn X Y B) (h : ∀ x y, hasSq A x y = hasSq B x y) : regD A = regD B := congrArg regD (one_form ha.u hb.u h)
theorem go_ne {X Y : List Int} {K : PySem.W.Frag} {A B : List Band} {x y : V} {H : Hp} {Q : VK} (da : Dp K H x (regD A)) (db : Dp K H y (regD B)) (ha : RegV X Y x A) (hb : RegV X Y y B) (h : ∀ i j, hasSq A i j = hasSq B i j) (q : Q (.bl false) H) : rNeD K x y H Q := by
  refine t_ne da db (sh_reg _).shaped (sh_reg _).shaped ?_
  have e : PyData.eqv (regD A) (regD B) = true := by rw [alg ha.r hb.r h]; exact (sh_reg _).self
  rw [e]; exact q
theorem go_eq {X Y : List Int} {K : PySem.W.Frag} {A B : List Band} {x y : V} {H : Hp} {Q : VK} (da : Dp K H x (regD A)) (db : Dp K H y (regD B)) (ha : RegV X Y x A) (hb : RegV X Y y B) (h : ∀ i j, hasSq A i j = hasSq B i j) (q : Q (.bl true) H) : rEqD K x y H Q := by
  refine t_eq da db (sh_reg _).shaped (sh_reg _).shaped ?_
  have e : PyData.eqv (regD A) (regD B) = true := by rw [alg ha.r hb.r h]; exact (sh_reg _).self
  rw [e]; exact q
theorem hasSq_nil (x y : Int) : hasSq [] x y = false := rfl
theorem RegV.nil (X Y : List Int) (v : V) : RegV X Y v [] := ⟨RegIn.nil X Y⟩
theorem dp_nilR {K : PySem.W.Frag} {H : Hp} {p : Addr} : Dp K (upd H p (.lst [])) (.ref p) (regD []) := .lst (SqL.of upd_same) .nil
local macro_rules | `(tactic| walk_at "dt") => `(tactic| first
  | assumption
  | exact dp_nilR
  | (refine Dp.to ?_ (by assumption); walk_at "dt")
  | (refine Dp.to ?_ (same_upd (by assumption)); walk_at "dt"))
local macro_rules | `(tactic| walk_at "rg") => `(tactic| first
  | assumption
  | exact RegV.nil _ _ _)
local macro_rules | `(tactic| walk_at "op") => `(tactic| (
  refine go_op (by assumption) (by walk_at "dt") (by walk_at "dt") (by walk_at "rg") (by walk_at "rg") fun v H s d r => ?_
  walk_at "go"))
local macro_rules | `(tactic| walk_at "al") => `(tactic| simp only [cmbR_sq or rfl, cmbR_sq and rfl, cmbR_sq (fun a b => a && !b) rfl, hasSq_nil])
local macro_rules | `(tactic| walk_at "nea") => `(tactic| (
  refine go_ne (by walk_at "dt") (by walk_at "dt") (by walk_at "rg") (by walk_at "rg") (fun x y => ?_) ?_))
local macro_rules | `(tactic| walk_at "eqa") => `(tactic| (
  refine go_eq (by walk_at "dt") (by walk_at "dt") (by walk_at "rg") (by walk_at "rg") (fun x y => ?_) ?_))
theorem sc_law : FnScope ["script", "size", "made", "one", "a", "b", "c", "row"] ["script"] (defScope s_law) := ⟨rfl, rfl, rfl, by decide +kernel, rfl, by decide +kernel, by decide +kernel⟩
set_option maxHeartbeats 8000000 in
theorem ok_law (T : Txt K mg A) : FnOk P w K mg base CX0 8 A.flaw A.dlaw ["script"] (sp_law K) := by
  refine T.Flaw.ok sc_law (fun vs H Q E h => ?_) (fun cdv Ar outer s H vs Q E hr h => ?_)
  · obtain ⟨a, ns, rfl, _⟩ := h
    rfl
  · obtain ⟨a, ns, rfl, hS, hlen, q⟩ := h
    refine ⟨_, (pss_cons (ps_set (i := 1) sc_law.nd rfl (Or.inl rfl) (pe_callB (call_min2 rfl) (by rfl) T.min (by decide +kernel) (pa_cons pe_int (pa_cons (pe_op op_add (pe_op op_fdiv (pe_callB call_len_seq (by rfl) T.len PySem.boot_len (pa_cons (pv 0) pa_nil)) pe_int) pe_int) pa_nil))))
      (pss_cons (ps_set (i := 2) sc_law.nd rfl (Or.inl rfl) (pe_lst (pa_cons (pe_call (ok__law_made T) (hr.mono (by decide)) rfl T.g_law_made T.k_law_made T.b_law_made .nil pass0 (pa_cons (pv 0) (pa_cons pe_int (pa_cons (pv 1) pa_nil)))) (pa_cons (pe_call (ok__law_made T) (hr.mono (by decide)) rfl T.g_law_made T.k_law_made T.b_law_made .nil pass0 (pa_cons (pv 0) (pa_cons (pv 1) (pa_cons (pv 1) pa_nil)))) (pa_cons (pe_call (ok__law_made T) (hr.mono (by decide)) rfl T.g_law_made T.k_law_made T.b_law_made .nil pass0 (pa_cons (pv 0) (pa_cons (pe_op op_mul pe_int (pv 1)) (pa_cons (pv 1) pa_nil)))) pa_nil)))))
      (pss_cons (ps_for PassesOwn.never rfl (pi_list (pv 2)) (pg_name (i := 3) sc_law.nd rfl (Or.inl rfl))
      (pss_one (ps_if (pt_not (pt_val (pe_call (ok__law_grid_good T) (hr.mono (by decide)) rfl T.g_law_grid_good T.k_law_grid_good T.b_law_grid_good .nil pass0 (pa_cons (pe_ix (r := rIxT K) ix_tup (pv 3) pe_int (fun _ _ => rfl)) (pa_cons (pe_ix (r := rIxT K) ix_tup (pv 3) pe_int (fun _ _ => rfl)) pa_nil)))))
      (pss_one (ps_ret pe_bl))
      pss_nil)))
      (pss_cons (ps_set (i := 4) sc_law.nd rfl (Or.inl rfl) (pe_ix (r := rIxT K) ix_tup (pe_ix (r := rIxL K) ix_list (pv 2) pe_int (fun _ _ => rfl)) pe_int (fun _ _ => rfl)))
      (pss_cons (ps_set (i := 5) sc_law.nd rfl (Or.inl rfl) (pe_ix (r := rIxT K) ix_tup (pe_ix (r := rIxL K) ix_list (pv 2) pe_int (fun _ _ => rfl)) pe_int (fun _ _ => rfl)))
      (pss_cons (ps_set (i := 6) sc_law.nd rfl (Or.inl rfl) (pe_ix (r := rIxT K) ix_tup (pe_ix (r := rIxL K) ix_list (pv 2) pe_int (fun _ _ => rfl)) pe_int (fun _ _ => rfl)))
      (pss_cons (ps_set (i := 7) sc_law.nd rfl (Or.inl rfl) (pe_call (ok__law_row T) (hr.mono (by decide)) rfl T.g_law_row T.k_law_row T.b_law_row .nil pass0 (pa_cons (pv 0) (pa_cons (pe_op op_mul pe_int (pv 1)) pa_nil))))
      (C8.pss_cut (ps_if (pt_cmpR op_eq (pe_op op_mod (pe_callTy call_int1 (by rfl) T.int (by decide +kernel) (pa_cons (pv 7) pa_nil)) pe_int) pe_int (nomark _))
      (pss_one (ps_set (i := 6) sc_law.nd rfl (Or.inl rfl) (pe_call (ok_shifted T) (hr.mono (by decide)) rfl T.gshifted T.kshifted T.bshifted .nil pass0 (pa_cons (pv 6) (pa_cons (pe_op op_sub (pe_op op_mod (pe_callTy call_int1 (by rfl) T.int (by decide +kernel) (pa_cons (pe_op op_fdiv (pv 7) pe_int) pa_nil)) pe_int) pe_int) (pa_cons (pe_op op_sub (pe_op op_mod (pe_callTy call_int1 (by rfl) T.int (by decide +kernel) (pa_cons (pe_op op_fdiv (pv 7) pe_int) pa_nil)) pe_int) pe_int) pa_nil))))))
      pss_nil)
      (C8.pss_cut (ps_if (PW.pt (pw_or (pt_cmpR (op_neD hr.units) (pe_call (ok_united T) (hr.mono (by decide)) rfl T.gunited T.kunited T.bunited .nil pass0 (pa_cons (pv 4) (pa_cons (pv 5) pa_nil))) (pe_call (ok_united T) (hr.mono (by decide)) rfl T.gunited T.kunited T.bunited .nil pass0 (pa_cons (pv 5) (pa_cons (pv 4) pa_nil))) (nomark _)) (pw_or1 (pt_cmpR (op_neD hr.units) (pe_call (ok_common T) (hr.mono (by decide)) rfl T.gcommon T.kcommon T.bcommon .nil pass0 (pa_cons (pv 4) (pa_cons (pv 5) pa_nil))) (pe_call (ok_common T) (hr.mono (by decide)) rfl T.gcommon T.kcommon T.bcommon .nil pass0 (pa_cons (pv 5) (pa_cons (pv 4) pa_nil))) (nomark _)))))
      (pss_one (ps_ret pe_bl))
      pss_nil)
      (C8.pss_cut (ps_if (PW.pt (pw_or (pt_cmpR (op_neD hr.units) (pe_call (ok_united T) (hr.mono (by decide)) rfl T.gunited T.kunited T.bunited .nil pass0 (pa_cons (pe_call (ok_united T) (hr.mono (by decide)) rfl T.gunited T.kunited T.bunited .nil pass0 (pa_cons (pv 4) (pa_cons (pv 5) pa_nil))) (pa_cons (pv 6) pa_nil))) (pe_call (ok_united T) (hr.mono (by decide)) rfl T.gunited T.kunited T.bunited .nil pass0 (pa_cons (pv 4) (pa_cons (pe_call (ok_united T) (hr.mono (by decide)) rfl T.gunited T.kunited T.bunited .nil pass0 (pa_cons (pv 5) (pa_cons (pv 6) pa_nil))) pa_nil))) (nomark _)) (pw_or1 (pt_cmpR (op_neD hr.units) (pe_call (ok_common T) (hr.mono (by decide)) rfl T.gcommon T.kcommon T.bcommon .nil pass0 (pa_cons (pe_call (ok_common T) (hr.mono (by decide)) rfl T.gcommon T.kcommon T.bcommon .nil pass0 (pa_cons (pv 4) (pa_cons (pv 5) pa_nil))) (pa_cons (pv 6) pa_nil))) (pe_call (ok_common T) (hr.mono (by decide)) rfl T.gcommon T.kcommon T.bcommon .nil pass0 (pa_cons (pv 4) (pa_cons (pe_call (ok_common T) (hr.mono (by decide)) rfl T.gcommon T.kcommon T.bcommon .nil pass0 (pa_cons (pv 5) (pa_cons (pv 6) pa_nil))) pa_nil))) (nomark _)))))
      (pss_one (ps_ret pe_bl))
      pss_nil)
      (C8.pss_cut (ps_if (pt_cmpR (op_neD hr.units) (pe_call (ok_common T) (hr.mono (by decide)) rfl T.gcommon T.kcommon T.bcommon .nil pass0 (pa_cons (pv 4) (pa_cons (pe_call (ok_united T) (hr.mono (by decide)) rfl T.gunited T.kunited T.bunited .nil pass0 (pa_cons (pv 5) (pa_cons (pv 6) pa_nil))) pa_nil))) (pe_call (ok_united T) (hr.mono (by decide)) rfl T.gunited T.kunited T.bunited .nil pass0 (pa_cons (pe_call (ok_common T) (hr.mono (by decide)) rfl T.gcommon T.kcommon T.bcommon .nil pass0 (pa_cons (pv 4) (pa_cons (pv 5) pa_nil))) (pa_cons (pe_call (ok_common T) (hr.mono (by decide)) rfl T.gcommon T.kcommon T.bcommon .nil pass0 (pa_cons (pv 4) (pa_cons (pv 6) pa_nil))) pa_nil))) (nomark _))
      (pss_one (ps_ret pe_bl))
      pss_nil)
      (C8.pss_cut (ps_if (pt_cmpR (op_neD hr.units) (pe_call (ok_united T) (hr.mono (by decide)) rfl T.gunited T.kunited T.bunited .nil pass0 (pa_cons (pv 4) (pa_cons (pe_call (ok_common T) (hr.mono (by decide)) rfl T.gcommon T.kcommon T.bcommon .nil pass0 (pa_cons (pv 5) (pa_cons (pv 6) pa_nil))) pa_nil))) (pe_call (ok_common T) (hr.mono (by decide)) rfl T.gcommon T.kcommon T.bcommon .nil pass0 (pa_cons (pe_call (ok_united T) (hr.mono (by decide)) rfl T.gunited T.kunited T.bunited .nil pass0 (pa_cons (pv 4) (pa_cons (pv 5) pa_nil))) (pa_cons (pe_call (ok_united T) (hr.mono (by decide)) rfl T.gunited T.kunited T.bunited .nil pass0 (pa_cons (pv 4) (pa_cons (pv 6) pa_nil))) pa_nil))) (nomark _))
      (pss_one (ps_ret pe_bl))
      pss_nil)
      (C8.pss_cut (ps_if (pt_cmpR (op_neD hr.units) (pe_call (ok_without T) (hr.mono (by decide)) rfl T.gwithout T.kwithout T.bwithout .nil pass0 (pa_cons (pv 4) (pa_cons (pe_call (ok_united T) (hr.mono (by decide)) rfl T.gunited T.kunited T.bunited .nil pass0 (pa_cons (pv 5) (pa_cons (pv 6) pa_nil))) pa_nil))) (pe_call (ok_common T) (hr.mono (by decide)) rfl T.gcommon T.kcommon T.bcommon .nil pass0 (pa_cons (pe_call (ok_without T) (hr.mono (by decide)) rfl T.gwithout T.kwithout T.bwithout .nil pass0 (pa_cons (pv 4) (pa_cons (pv 5) pa_nil))) (pa_cons (pe_call (ok_without T) (hr.mono (by decide)) rfl T.gwithout T.kwithout T.bwithout .nil pass0 (pa_cons (pv 4) (pa_cons (pv 6) pa_nil))) pa_nil))) (nomark _))
      (pss_one (ps_ret pe_bl))
      pss_nil)
      (C8.pss_cut (ps_if (pt_cmpR (op_neD hr.units) (pe_call (ok_without T) (hr.mono (by decide)) rfl T.gwithout T.kwithout T.bwithout .nil pass0 (pa_cons (pv 4) (pa_cons (pe_call (ok_common T) (hr.mono (by decide)) rfl T.gcommon T.kcommon T.bcommon .nil pass0 (pa_cons (pv 5) (pa_cons (pv 6) pa_nil))) pa_nil))) (pe_call (ok_united T) (hr.mono (by decide)) rfl T.gunited T.kunited T.bunited .nil pass0 (pa_cons (pe_call (ok_without T) (hr.mono (by decide)) rfl T.gwithout T.kwithout T.bwithout .nil pass0 (pa_cons (pv 4) (pa_cons (pv 5) pa_nil))) (pa_cons (pe_call (ok_without T) (hr.mono (by decide)) rfl T.gwithout T.kwithout T.bwithout .nil pass0 (pa_cons (pv 4) (pa_cons (pv 6) pa_nil))) pa_nil))) (nomark _))
      (pss_one (ps_ret pe_bl))
      pss_nil)
      (C8.pss_cut (ps_if (PW.pt (pw_or (pt_cmpR (op_neD hr.units) (pe_call (ok_united T) (hr.mono (by decide)) rfl T.gunited T.kunited T.bunited .nil pass0 (pa_cons (pe_call (ok_without T) (hr.mono (by decide)) rfl T.gwithout T.kwithout T.bwithout .nil pass0 (pa_cons (pv 4) (pa_cons (pv 5) pa_nil))) (pa_cons (pe_call (ok_common T) (hr.mono (by decide)) rfl T.gcommon T.kcommon T.bcommon .nil pass0 (pa_cons (pv 4) (pa_cons (pv 5) pa_nil))) pa_nil))) (pv 4) (nomark _)) (pw_or1 (pt_cmpR (op_neD hr.units) (pe_call (ok_common T) (hr.mono (by decide)) rfl T.gcommon T.kcommon T.bcommon .nil pass0 (pa_cons (pe_call (ok_without T) (hr.mono (by decide)) rfl T.gwithout T.kwithout T.bwithout .nil pass0 (pa_cons (pv 4) (pa_cons (pv 5) pa_nil))) (pa_cons (pv 5) pa_nil))) (pe_lst pa_nil) (nomark _)))))
      (pss_one (ps_ret pe_bl))
      pss_nil)
      (pss_one (ps_ret (pe_and (pe_cmpR (op_eqD hr.units) (pe_call (ok_without T) (hr.mono (by decide)) rfl T.gwithout T.kwithout T.bwithout .nil pass0 (pa_cons (pv 4) (pa_cons (pv 4) pa_nil))) (pe_lst pa_nil) (nomark _)) (pe_one (pe_cmpR (op_eqD hr.units) (pe_call (ok_united T) (hr.mono (by decide)) rfl T.gunited T.kunited T.bunited .nil pass0 (pa_cons (pv 4) (pa_cons (pe_lst pa_nil) pa_nil))) (pv 4) (nomark _))))))))))))))))))))), ?_⟩
    walk_at "go"
    obtain ⟨sz, hsz, e⟩ : ∃ sz : Nat, sz < 100 ∧ (if (((List.map V.int ns).length : Nat) : Int) / 3 + 1 < 5 then (((List.map V.int ns).length : Nat) : Int) / 3 + 1 else 5) = (sz : Int) :=
      ⟨(if (((List.map V.int ns).length : Nat) : Int) / 3 + 1 < 5 then (((List.map V.int ns).length : Nat) : Int) / 3 + 1 else 5).toNat, by split <;> omega, by split <;> omega⟩
    rw [e]
    refine ⟨a, ns, 0, sz, rfl, hS, by decide, by omega, fun p1 va pg1 Ra H1 s1 t1 da ca g1 => ?_⟩
    walk_at "go"
    refine ⟨a, ns, sz, sz, rfl, by walk_at "sq", by omega, by omega, fun p2 vb pg2 Rb H2 s2 t2 db cb g2 => ?_⟩
    walk_at "go"
    refine ⟨a, ns, 2 * sz, sz, ?_, by walk_at "sq", by omega, by omega, fun p3 vc pg3 Rc H3 s3 t3 dc cc g3 => ?_⟩
    · show [V.ref a, V.int (2 * (sz : Int)), V.int (sz : Int)] = [V.ref a, V.int ((2 * sz : Nat) : Int), V.int (sz : Int)]
      rw [Int.natCast_mul]; rfl
    have s13 := s2.trans s3
    have t13 := s13.sqt t1
    have t23 := s3.sqt t2
    have da3 := da.to s13
    have db3 := db.to s3
    have g13 := s13.seq g1
    have g23 := s3.seq g2
    have hS3 := s3.seq (s2.seq (s1.seq hS))
    walk_at "go"
    rename_i pm hpm
    have sm := same_upd (o := .lst [.ref p1, .ref p2, .ref p3]) hpm
    have em : (upd H3 pm (.lst [.ref p1, .ref p2, .ref p3])) pm = _ := upd_same
    generalize upd H3 pm (.lst [.ref p1, .ref p2, .ref p3]) = H4 at sm em ⊢
    refine ⟨⟨_, SqL.of em⟩, for_list (K := K) (a := pm) (xs := [.ref p1, .ref p2, .ref p3]) (fun j σ H' => ∃ v3 : Option V, σ = [some (.ref a), some (.int (sz : Int)), some (.ref pm), v3, none, none, none, none] ∧ Same H4 H') ⟨_, rfl, Same.refl _⟩ (fun j σ H' _ ⟨_, _, s⟩ => s.seq (SqL.of em)) ?_ ?_⟩
    · rintro j x σ H5 hx ⟨v3, rfl, s5⟩
      have s35 := sm.trans s5
      obtain ⟨p, v, pg, R, rfl, ht, hd, hc, hg⟩ : ∃ p v pg R, x = .ref p ∧ SqT K H5 p [v, .ref pg] ∧ Dp K H5 v (regD R) ∧ Can R ∧ SqL K H5 pg (gL (sqf R)) := by
        have hm := List.mem_of_getElem? hx
        simp only [List.mem_cons, List.not_mem_nil, or_false] at hm
        rcases hm with rfl | rfl | rfl
        · exact ⟨p1, va, pg1, Ra, rfl, s35.sqt t13, da3.to s35, ca, s35.seq g13⟩
        · exact ⟨p2, vb, pg2, Rb, rfl, s35.sqt t23, db3.to s35, cb, s35.seq g23⟩
        · exact ⟨p3, vc, pg3, Rc, rfl, s35.sqt t3, dc.to s35, cc, s35.seq g3⟩
      walk_at "go"
      refine ⟨v, R, pg, rfl, hd, hc.box, hg, fun H6 s6 => ?_⟩
      walk_at "go"
      exact s5.trans s6
    · rintro σ H5 ⟨v3, rfl, s5⟩
      have s35 := sm.trans s5
      have t15 := s35.sqt t13
      have t25 := s35.sqt t23
      have t35 := s35.sqt t3
      have da5 := da3.to s35
      have db5 := db3.to s35
      have dc5 := dc.to s35
      have em5 : SqL K H5 pm _ := s5.seq (SqL.of em)
      have hS5 := s35.seq hS3
      walk_at "go"
      refine ⟨a, ns, 3 * sz, ?_, hS5, ?_⟩
      · show [V.ref a, V.int (3 * (sz : Int))] = [V.ref a, V.int ((3 * sz : Nat) : Int)]
        rw [Int.natCast_mul]; rfl
      generalize lawRow ns (3 * sz) = row
      walk_at "go"
      refine ⟨fun σ' H' => ∃ (v : V) (R : List Band) (X Y : List Int), σ' = [some (.ref a), some (.int (sz : Int)), some (.ref pm), v3, some va, some vb, some v, some (.int row)] ∧ (X.length < 64 ∧ Y.length < 64) ∧ RegIn X Y Ra ∧ RegIn X Y Rb ∧ RegIn X Y R ∧ Dp K H' va (regD Ra) ∧ Dp K H' vb (regD Rb) ∧ Dp K H' v (regD R), ?_, ?_⟩
      · walk_at "go"
        refine iteEq (fun h => ?_) (fun h => ?_)
        · walk_at "go"
          refine ⟨_, _, vc, Rc, rfl, dc5, cc.box.ok, fun v H6 s6 d6 => ?_⟩
          generalize row / 4 % 2000000 - 1000000 = dx at d6
          generalize row / 8000000 % 21 - 10 = dy at d6
          refine ⟨v, _, sides ++ sides.map (fun z => z + dx), sides ++ sides.map (fun z => z + dy), rfl, ⟨?_, ?_⟩, ?_, ?_, ?_, da5.to s6, db5.to s6, d6⟩
          · rw [List.length_append, List.length_map]; decide
          · rw [List.length_append, List.length_map]; decide
          · exact ca.reg.mono (fun k h => List.mem_append_left _ h) (fun k h => List.mem_append_left _ h)
          · exact cb.reg.mono (fun k h => List.mem_append_left _ h) (fun k h => List.mem_append_left _ h)
          · exact (cc.reg.shift dx dy).mono (fun k h => List.mem_append_right _ h) (fun k h => List.mem_append_right _ h)
        · exact ⟨vc, Rc, sides, sides, rfl, ⟨sides_len, sides_len⟩, ca.reg, cb.reg, cc.reg, da5, db5, dc5⟩
      clear da db dc da3 db3 da5 db5 dc5 t1 t2 t3 t13 t23 t15 t25 t35 g1 g2 g3 g13 g23 em5 hS5 hS3 s35 s5 sm s13 s1 s2 s3 em
      rintro σ' H6 ⟨vc, Rc, X, Y, rfl, hxy, ra, rb, rc, da, db, dc⟩
      have ra : RegV X Y va Ra := ⟨ra⟩
      have rb : RegV X Y vb Rb := ⟨rb⟩
      have rc : RegV X Y vc Rc := ⟨rc⟩
      refine ⟨fun σ' H' => σ' = [some (.ref a), some (.int (sz : Int)), some (.ref pm), v3, some va, some vb, some vc, some (.int row)] ∧ Dp K H' va (regD Ra) ∧ Dp K H' vb (regD Rb) ∧ Dp K H' vc (regD Rc), ?_, ?_⟩
      · walk_at "go"
        walk_at "op"
        walk_at "op"
        walk_at "nea"
        · walk_at "al"
          rename_i x y; cases hasSq Ra x y <;> cases hasSq Rb x y <;> cases hasSq Rc x y <;> rfl
        walk_at "go"
        walk_at "op"
        walk_at "op"
        walk_at "nea"
        · walk_at "al"
          rename_i x y; cases hasSq Ra x y <;> cases hasSq Rb x y <;> cases hasSq Rc x y <;> rfl
        walk_at "go"
        exact ⟨by walk_at "dt", by walk_at "dt", by walk_at "dt"⟩
      clear da db dc
      rintro σ' H7 ⟨rfl, da, db, dc⟩
      refine ⟨fun σ' H' => σ' = [some (.ref a), some (.int (sz : Int)), some (.ref pm), v3, some va, some vb, some vc, some (.int row)] ∧ Dp K H' va (regD Ra) ∧ Dp K H' vb (regD Rb) ∧ Dp K H' vc (regD Rc), ?_, ?_⟩
      · walk_at "go"
        walk_at "op"
        walk_at "op"
        walk_at "op"
        walk_at "op"
        walk_at "nea"
        · walk_at "al"
          rename_i x y; cases hasSq Ra x y <;> cases hasSq Rb x y <;> cases hasSq Rc x y <;> rfl
        walk_at "go"
        walk_at "op"
        walk_at "op"
        walk_at "op"
        walk_at "op"
        walk_at "nea"
        · walk_at "al"
          rename_i x y; cases hasSq Ra x y <;> cases hasSq Rb x y <;> cases hasSq Rc x y <;> rfl
        walk_at "go"
        exact ⟨by walk_at "dt", by walk_at "dt", by walk_at "dt"⟩
      clear da db dc
      rintro σ' H7 ⟨rfl, da, db, dc⟩
      refine ⟨fun σ' H' => σ' = [some (.ref a), some (.int (sz : Int)), some (.ref pm), v3, some va, some vb, some vc, some (.int row)] ∧ Dp K H' va (regD Ra) ∧ Dp K H' vb (regD Rb) ∧ Dp K H' vc (regD Rc), ?_, ?_⟩
      · walk_at "go"
        walk_at "op"
        walk_at "op"
        walk_at "op"
        walk_at "op"
        walk_at "op"
        walk_at "nea"
        · walk_at "al"
          rename_i x y; cases hasSq Ra x y <;> cases hasSq Rb x y <;> cases hasSq Rc x y <;> rfl
        walk_at "go"
        exact ⟨by walk_at "dt", by walk_at "dt", by walk_at "dt"⟩
      clear da db dc
      rintro σ' H7 ⟨rfl, da, db, dc⟩
      refine ⟨fun σ' H' => σ' = [some (.ref a), some (.int (sz : Int)), some (.ref pm), v3, some va, some vb, some vc, some (.int row)] ∧ Dp K H' va (regD Ra) ∧ Dp K H' vb (regD Rb) ∧ Dp K H' vc (regD Rc), ?_, ?_⟩
      · walk_at "go"
        walk_at "op"
        walk_at "op"
        walk_at "op"
        walk_at "op"
        walk_at "op"
        walk_at "nea"
        · walk_at "al"
          rename_i x y; cases hasSq Ra x y <;> cases hasSq Rb x y <;> cases hasSq Rc x y <;> rfl
        walk_at "go"
        exact ⟨by walk_at "dt", by walk_at "dt", by walk_at "dt"⟩
      clear da db dc
      rintro σ' H7 ⟨rfl, da, db, dc⟩
      refine ⟨fun σ' H' => σ' = [some (.ref a), some (.int (sz : Int)), some (.ref pm), v3, some va, some vb, some vc, some (.int row)] ∧ Dp K H' va (regD Ra) ∧ Dp K H' vb (regD Rb) ∧ Dp K H' vc (regD Rc), ?_, ?_⟩
      · walk_at "go"
        walk_at "op"
        walk_at "op"
        walk_at "op"
        walk_at "op"
        walk_at "op"
        walk_at "nea"
        · walk_at "al"
          rename_i x y; cases hasSq Ra x y <;> cases hasSq Rb x y <;> cases hasSq Rc x y <;> rfl
        walk_at "go"
        exact ⟨by walk_at "dt", by walk_at "dt", by walk_at "dt"⟩
      clear da db dc
      rintro σ' H7 ⟨rfl, da, db, dc⟩
      refine ⟨fun σ' H' => σ' = [some (.ref a), some (.int (sz : Int)), some (.ref pm), v3, some va, some vb, some vc, some (.int row)] ∧ Dp K H' va (regD Ra) ∧ Dp K H' vb (regD Rb) ∧ Dp K H' vc (regD Rc), ?_, ?_⟩
      · walk_at "go"
        walk_at "op"
        walk_at "op"
        walk_at "op"
        walk_at "op"
        walk_at "op"
        walk_at "nea"
        · walk_at "al"
          rename_i x y; cases hasSq Ra x y <;> cases hasSq Rb x y <;> cases hasSq Rc x y <;> rfl
        walk_at "go"
        exact ⟨by walk_at "dt", by walk_at "dt", by walk_at "dt"⟩
      clear da db dc
      rintro σ' H7 ⟨rfl, da, db, dc⟩
      refine ⟨fun σ' H' => σ' = [some (.ref a), some (.int (sz : Int)), some (.ref pm), v3, some va, some vb, some vc, some (.int row)] ∧ Dp K H' va (regD Ra) ∧ Dp K H' vb (regD Rb) ∧ Dp K H' vc (regD Rc), ?_, ?_⟩
      · walk_at "go"
        walk_at "op"
        walk_at "op"
        walk_at "op"
        walk_at "nea"
        · walk_at "al"
          rename_i x y; cases hasSq Ra x y <;> cases hasSq Rb x y <;> cases hasSq Rc x y <;> rfl
        walk_at "go"
        walk_at "op"
        walk_at "op"
        walk_at "nea"
        · walk_at "al"
          rename_i x y; cases hasSq Ra x y <;> cases hasSq Rb x y <;> cases hasSq Rc x y <;> rfl
        walk_at "go"
        exact ⟨by walk_at "dt", by walk_at "dt", by walk_at "dt"⟩
      clear da db dc
      rintro σ' H7 ⟨rfl, da, db, dc⟩
      walk_at "go"
      walk_at "op"
      walk_at "eqa"
      · walk_at "al"
        rename_i x y; cases hasSq Ra x y <;> cases hasSq Rb x y <;> cases hasSq Rc x y <;> rfl
      walk_at "go"
      walk_at "op"
      walk_at "eqa"
      · walk_at "al"
        rename_i x y; cases hasSq Ra x y <;> cases hasSq Rb x y <;> cases hasSq Rc x y <;> rfl
      walk_at "go"
      exact q _
end
theorem all_mk {K : PySem.W.Frag} {h : Heap} {mg : Str → Option Value} {fa : Addr} (X : K.In h) (G : h.Ns mainGlobals mg) (hfa : mg "law" = some (.ref fa))
    {frectangle_region : Addr} {od1 an1 : Option Addr} {sl1 : Array (Option Value)} {oc1 kV1 dc1 pm1 cd1 ct1 : Value}
    {funited : Addr} {od2 an2 : Option Addr} {sl2 : Array (Option Value)} {oc2 kV2 dc2 pm2 cd2 ct2 : Value}
    {fcommon : Addr} {od3 an3 : Option Addr} {sl3 : Array (Option Value)} {oc3 kV3 dc3 pm3 cd3 ct3 : Value}
    {fwithout : Addr} {od4 an4 : Option Addr} {sl4 : Array (Option Value)} {oc4 kV4 dc4 pm4 cd4 ct4 : Value}
    {fshifted : Addr} {od5 an5 : Option Addr} {sl5 : Array (Option Value)} {oc5 kV5 dc5 pm5 cd5 ct5 : Value}
    {fhas_square : Addr} {od6 an6 : Option Addr} {sl6 : Array (Option Value)} {oc6 kV6 dc6 pm6 cd6 ct6 : Value}
    {f_either : Addr} {od7 an7 : Option Addr} {sl7 : Array (Option Value)} {oc7 kV7 dc7 pm7 cd7 ct7 : Value}
    {f_first_alone : Addr} {od8 an8 : Option Addr} {sl8 : Array (Option Value)} {oc8 kV8 dc8 pm8 cd8 ct8 : Value}
    {f_combined : Addr} {od9 an9 : Option Addr} {sl9 : Array (Option Value)} {oc9 kV9 dc9 pm9 cd9 ct9 : Value}
    {f_combined_spans : Addr} {od10 an10 : Option Addr} {sl10 : Array (Option Value)} {oc10 kV10 dc10 pm10 cd10 ct10 : Value}
    {f_common_spans : Addr} {od11 an11 : Option Addr} {sl11 : Array (Option Value)} {oc11 kV11 dc11 pm11 cd11 ct11 : Value}
    {f_spans_of : Addr} {od12 an12 : Option Addr} {sl12 : Array (Option Value)} {oc12 kV12 dc12 pm12 cd12 ct12 : Value}
    {f_pieces : Addr} {od13 an13 : Option Addr} {sl13 : Array (Option Value)} {oc13 kV13 dc13 pm13 cd13 ct13 : Value}
    {f_first_ending_behind : Addr} {od14 an14 : Option Addr} {sl14 : Array (Option Value)} {oc14 kV14 dc14 pm14 cd14 ct14 : Value}
    {f_row_from : Addr} {od15 an15 : Option Addr} {sl15 : Array (Option Value)} {oc15 kV15 dc15 pm15 cd15 ct15 : Value}
    {f_joined : Addr} {od16 an16 : Option Addr} {sl16 : Array (Option Value)} {oc16 kV16 dc16 pm16 cd16 ct16 : Value}
    {f_law_cell : Addr} {od17 an17 : Option Addr} {sl17 : Array (Option Value)} {oc17 kV17 dc17 pm17 cd17 ct17 : Value}
    {f_law_row : Addr} {od18 an18 : Option Addr} {sl18 : Array (Option Value)} {oc18 kV18 dc18 pm18 cd18 ct18 : Value}
    {f_law_rect : Addr} {od19 an19 : Option Addr} {sl19 : Array (Option Value)} {oc19 kV19 dc19 pm19 cd19 ct19 : Value}
    {f_law_in_rect : Addr} {od20 an20 : Option Addr} {sl20 : Array (Option Value)} {oc20 kV20 dc20 pm20 cd20 ct20 : Value}
    {f_law_grid : Addr} {od21 an21 : Option Addr} {sl21 : Array (Option Value)} {oc21 kV21 dc21 pm21 cd21 ct21 : Value}
    {f_law_grid_good : Addr} {od22 an22 : Option Addr} {sl22 : Array (Option Value)} {oc22 kV22 dc22 pm22 cd22 ct22 : Value}
    {f_law_both : Addr} {od23 an23 : Option Addr} {sl23 : Array (Option Value)} {oc23 kV23 dc23 pm23 cd23 ct23 : Value}
    {f_law_join : Addr} {od24 an24 : Option Addr} {sl24 : Array (Option Value)} {oc24 kV24 dc24 pm24 cd24 ct24 : Value}
    {f_law_apply : Addr} {od25 an25 : Option Addr} {sl25 : Array (Option Value)} {oc25 kV25 dc25 pm25 cd25 ct25 : Value}
    {f_law_made : Addr} {od26 an26 : Option Addr} {sl26 : Array (Option Value)} {oc26 kV26 dc26 pm26 cd26 ct26 : Value}
    {flaw : Addr} {od27 an27 : Option Addr} {sl27 : Array (Option Value)} {oc27 kV27 dc27 pm27 cd27 ct27 : Value}
    (a1 : PySem.W.nsIn K mainGlobals "rectangle_region" = some (some (.ref frectangle_region)))
    (l1 : K.lookup frectangle_region = some ⟨oc1, od1, .func (PySem.W.fnOf "rectangle_region" "rectangle_region" (defArgs s_rectangle_region) (defBody s_rectangle_region) (defScope s_rectangle_region) .none kV1 dc1 pm1 an1 cd1 ct1), sl1⟩) (c1 : PySem.W.codeIn K cd1 "rectangle_region" = true) (k1 : PySem.W.keepIn K (.ref frectangle_region) = true)
    (a2 : PySem.W.nsIn K mainGlobals "united" = some (some (.ref funited)))
    (l2 : K.lookup funited = some ⟨oc2, od2, .func (PySem.W.fnOf "united" "united" (defArgs s_united) (defBody s_united) (defScope s_united) .none kV2 dc2 pm2 an2 cd2 ct2), sl2⟩) (c2 : PySem.W.codeIn K cd2 "united" = true) (k2 : PySem.W.keepIn K (.ref funited) = true)
    (a3 : PySem.W.nsIn K mainGlobals "common" = some (some (.ref fcommon)))
    (l3 : K.lookup fcommon = some ⟨oc3, od3, .func (PySem.W.fnOf "common" "common" (defArgs s_common) (defBody s_common) (defScope s_common) .none kV3 dc3 pm3 an3 cd3 ct3), sl3⟩) (c3 : PySem.W.codeIn K cd3 "common" = true) (k3 : PySem.W.keepIn K (.ref fcommon) = true)
    (a4 : PySem.W.nsIn K mainGlobals "without" = some (some (.ref fwithout)))
    (l4 : K.lookup fwithout = some ⟨oc4, od4, .func (PySem.W.fnOf "without" "without" (defArgs s_without) (defBody s_without) (defScope s_without) .none kV4 dc4 pm4 an4 cd4 ct4), sl4⟩) (c4 : PySem.W.codeIn K cd4 "without" = true) (k4 : PySem.W.keepIn K (.ref fwithout) = true)
    (a5 : PySem.W.nsIn K mainGlobals "shifted" = some (some (.ref fshifted)))
    (l5 : K.lookup fshifted = some ⟨oc5, od5, .func (PySem.W.fnOf "shifted" "shifted" (defArgs s_shifted) (defBody s_shifted) (defScope s_shifted) .none kV5 dc5 pm5 an5 cd5 ct5), sl5⟩) (c5 : PySem.W.codeIn K cd5 "shifted" = true) (k5 : PySem.W.keepIn K (.ref fshifted) = true)
    (a6 : PySem.W.nsIn K mainGlobals "has_square" = some (some (.ref fhas_square)))
    (l6 : K.lookup fhas_square = some ⟨oc6, od6, .func (PySem.W.fnOf "has_square" "has_square" (defArgs s_has_square) (defBody s_has_square) (defScope s_has_square) .none kV6 dc6 pm6 an6 cd6 ct6), sl6⟩) (c6 : PySem.W.codeIn K cd6 "has_square" = true) (k6 : PySem.W.keepIn K (.ref fhas_square) = true)
    (a7 : PySem.W.nsIn K mainGlobals "_either" = some (some (.ref f_either)))
    (l7 : K.lookup f_either = some ⟨oc7, od7, .func (PySem.W.fnOf "_either" "_either" (defArgs s__either) (defBody s__either) (defScope s__either) .none kV7 dc7 pm7 an7 cd7 ct7), sl7⟩) (c7 : PySem.W.codeIn K cd7 "_either" = true) (k7 : PySem.W.keepIn K (.ref f_either) = true)
    (a8 : PySem.W.nsIn K mainGlobals "_first_alone" = some (some (.ref f_first_alone)))
    (l8 : K.lookup f_first_alone = some ⟨oc8, od8, .func (PySem.W.fnOf "_first_alone" "_first_alone" (defArgs s__first_alone) (defBody s__first_alone) (defScope s__first_alone) .none kV8 dc8 pm8 an8 cd8 ct8), sl8⟩) (c8 : PySem.W.codeIn K cd8 "_first_alone" = true) (k8 : PySem.W.keepIn K (.ref f_first_alone) = true)
    (a9 : PySem.W.nsIn K mainGlobals "_combined" = some (some (.ref f_combined)))
    (l9 : K.lookup f_combined = some ⟨oc9, od9, .func (PySem.W.fnOf "_combined" "_combined" (defArgs s__combined) (defBody s__combined) (defScope s__combined) .none kV9 dc9 pm9 an9 cd9 ct9), sl9⟩) (c9 : PySem.W.codeIn K cd9 "_combined" = true) (k9 : PySem.W.keepIn K (.ref f_combined) = true)
    (a10 : PySem.W.nsIn K mainGlobals "_combined_spans" = some (some (.ref f_combined_spans)))
    (l10 : K.lookup f_combined_spans = some ⟨oc10, od10, .func (PySem.W.fnOf "_combined_spans" "_combined_spans" (defArgs s__combined_spans) (defBody s__combined_spans) (defScope s__combined_spans) .none kV10 dc10 pm10 an10 cd10 ct10), sl10⟩) (c10 : PySem.W.codeIn K cd10 "_combined_spans" = true) (k10 : PySem.W.keepIn K (.ref f_combined_spans) = true)
    (a11 : PySem.W.nsIn K mainGlobals "_common_spans" = some (some (.ref f_common_spans)))
    (l11 : K.lookup f_common_spans = some ⟨oc11, od11, .func (PySem.W.fnOf "_common_spans" "_common_spans" (defArgs s__common_spans) (defBody s__common_spans) (defScope s__common_spans) .none kV11 dc11 pm11 an11 cd11 ct11), sl11⟩) (c11 : PySem.W.codeIn K cd11 "_common_spans" = true) (k11 : PySem.W.keepIn K (.ref f_common_spans) = true)
    (a12 : PySem.W.nsIn K mainGlobals "_spans_of" = some (some (.ref f_spans_of)))
    (l12 : K.lookup f_spans_of = some ⟨oc12, od12, .func (PySem.W.fnOf "_spans_of" "_spans_of" (defArgs s__spans_of) (defBody s__spans_of) (defScope s__spans_of) .none kV12 dc12 pm12 an12 cd12 ct12), sl12⟩) (c12 : PySem.W.codeIn K cd12 "_spans_of" = true) (k12 : PySem.W.keepIn K (.ref f_spans_of) = true)
    (a13 : PySem.W.nsIn K mainGlobals "_pieces" = some (some (.ref f_pieces)))
    (l13 : K.lookup f_pieces = some ⟨oc13, od13, .func (PySem.W.fnOf "_pieces" "_pieces" (defArgs s__pieces) (defBody s__pieces) (defScope s__pieces) .none kV13 dc13 pm13 an13 cd13 ct13), sl13⟩) (c13 : PySem.W.codeIn K cd13 "_pieces" = true) (k13 : PySem.W.keepIn K (.ref f_pieces) = true)
    (a14 : PySem.W.nsIn K mainGlobals "_first_ending_behind" = some (some (.ref f_first_ending_behind)))
    (l14 : K.lookup f_first_ending_behind = some ⟨oc14, od14, .func (PySem.W.fnOf "_first_ending_behind" "_first_ending_behind" (defArgs s__first_ending_behind) (defBody s__first_ending_behind) (defScope s__first_ending_behind) .none kV14 dc14 pm14 an14 cd14 ct14), sl14⟩) (c14 : PySem.W.codeIn K cd14 "_first_ending_behind" = true) (k14 : PySem.W.keepIn K (.ref f_first_ending_behind) = true)
    (a15 : PySem.W.nsIn K mainGlobals "_row_from" = some (some (.ref f_row_from)))
    (l15 : K.lookup f_row_from = some ⟨oc15, od15, .func (PySem.W.fnOf "_row_from" "_row_from" (defArgs s__row_from) (defBody s__row_from) (defScope s__row_from) .none kV15 dc15 pm15 an15 cd15 ct15), sl15⟩) (c15 : PySem.W.codeIn K cd15 "_row_from" = true) (k15 : PySem.W.keepIn K (.ref f_row_from) = true)
    (a16 : PySem.W.nsIn K mainGlobals "_joined" = some (some (.ref f_joined)))
    (l16 : K.lookup f_joined = some ⟨oc16, od16, .func (PySem.W.fnOf "_joined" "_joined" (defArgs s__joined) (defBody s__joined) (defScope s__joined) .none kV16 dc16 pm16 an16 cd16 ct16), sl16⟩) (c16 : PySem.W.codeIn K cd16 "_joined" = true) (k16 : PySem.W.keepIn K (.ref f_joined) = true)
    (a17 : PySem.W.nsIn K mainGlobals "_law_cell" = some (some (.ref f_law_cell)))
    (l17 : K.lookup f_law_cell = some ⟨oc17, od17, .func (PySem.W.fnOf "_law_cell" "_law_cell" (defArgs s__law_cell) (defBody s__law_cell) (defScope s__law_cell) .none kV17 dc17 pm17 an17 cd17 ct17), sl17⟩) (c17 : PySem.W.codeIn K cd17 "_law_cell" = true) (k17 : PySem.W.keepIn K (.ref f_law_cell) = true)
    (a18 : PySem.W.nsIn K mainGlobals "_law_row" = some (some (.ref f_law_row)))
    (l18 : K.lookup f_law_row = some ⟨oc18, od18, .func (PySem.W.fnOf "_law_row" "_law_row" (defArgs s__law_row) (defBody s__law_row) (defScope s__law_row) .none kV18 dc18 pm18 an18 cd18 ct18), sl18⟩) (c18 : PySem.W.codeIn K cd18 "_law_row" = true) (k18 : PySem.W.keepIn K (.ref f_law_row) = true)
    (a19 : PySem.W.nsIn K mainGlobals "_law_rect" = some (some (.ref f_law_rect)))
    (l19 : K.lookup f_law_rect = some ⟨oc19, od19, .func (PySem.W.fnOf "_law_rect" "_law_rect" (defArgs s__law_rect) (defBody s__law_rect) (defScope s__law_rect) .none kV19 dc19 pm19 an19 cd19 ct19), sl19⟩) (c19 : PySem.W.codeIn K cd19 "_law_rect" = true) (k19 : PySem.W.keepIn K (.ref f_law_rect) = true)
    (a20 : PySem.W.nsIn K mainGlobals "_law_in_rect" = some (some (.ref f_law_in_rect)))
    (l20 : K.lookup f_law_in_rect = some ⟨oc20, od20, .func (PySem.W.fnOf "_law_in_rect" "_law_in_rect" (defArgs s__law_in_rect) (defBody s__law_in_rect) (defScope s__law_in_rect) .none kV20 dc20 pm20 an20 cd20 ct20), sl20⟩) (c20 : PySem.W.codeIn K cd20 "_law_in_rect" = true) (k20 : PySem.W.keepIn K (.ref f_law_in_rect) = true)
    (a21 : PySem.W.nsIn K mainGlobals "_law_grid" = some (some (.ref f_law_grid)))
    (l21 : K.lookup f_law_grid = some ⟨oc21, od21, .func (PySem.W.fnOf "_law_grid" "_law_grid" (defArgs s__law_grid) (defBody s__law_grid) (defScope s__law_grid) .none kV21 dc21 pm21 an21 cd21 ct21), sl21⟩) (c21 : PySem.W.codeIn K cd21 "_law_grid" = true) (k21 : PySem.W.keepIn K (.ref f_law_grid) = true)
    (a22 : PySem.W.nsIn K mainGlobals "_law_grid_good" = some (some (.ref f_law_grid_good)))
    (l22 : K.lookup f_law_grid_good = some ⟨oc22, od22, .func (PySem.W.fnOf "_law_grid_good" "_law_grid_good" (defArgs s__law_grid_good) (defBody s__law_grid_good) (defScope s__law_grid_good) .none kV22 dc22 pm22 an22 cd22 ct22), sl22⟩) (c22 : PySem.W.codeIn K cd22 "_law_grid_good" = true) (k22 : PySem.W.keepIn K (.ref f_law_grid_good) = true)
    (a23 : PySem.W.nsIn K mainGlobals "_law_both" = some (some (.ref f_law_both)))
    (l23 : K.lookup f_law_both = some ⟨oc23, od23, .func (PySem.W.fnOf "_law_both" "_law_both" (defArgs s__law_both) (defBody s__law_both) (defScope s__law_both) .none kV23 dc23 pm23 an23 cd23 ct23), sl23⟩) (c23 : PySem.W.codeIn K cd23 "_law_both" = true) (k23 : PySem.W.keepIn K (.ref f_law_both) = true)
    (a24 : PySem.W.nsIn K mainGlobals "_law_join" = some (some (.ref f_law_join)))
    (l24 : K.lookup f_law_join = some ⟨oc24, od24, .func (PySem.W.fnOf "_law_join" "_law_join" (defArgs s__law_join) (defBody s__law_join) (defScope s__law_join) .none kV24 dc24 pm24 an24 cd24 ct24), sl24⟩) (c24 : PySem.W.codeIn K cd24 "_law_join" = true) (k24 : PySem.W.keepIn K (.ref f_law_join) = true)
    (a25 : PySem.W.nsIn K mainGlobals "_law_apply" = some (some (.ref f_law_apply)))
    (l25 : K.lookup f_law_apply = some ⟨oc25, od25, .func (PySem.W.fnOf "_law_apply" "_law_apply" (defArgs s__law_apply) (defBody s__law_apply) (defScope s__law_apply) .none kV25 dc25 pm25 an25 cd25 ct25), sl25⟩) (c25 : PySem.W.codeIn K cd25 "_law_apply" = true) (k25 : PySem.W.keepIn K (.ref f_law_apply) = true)
    (a26 : PySem.W.nsIn K mainGlobals "_law_made" = some (some (.ref f_law_made)))
    (l26 : K.lookup f_law_made = some ⟨oc26, od26, .func (PySem.W.fnOf "_law_made" "_law_made" (defArgs s__law_made) (defBody s__law_made) (defScope s__law_made) .none kV26 dc26 pm26 an26 cd26 ct26), sl26⟩) (c26 : PySem.W.codeIn K cd26 "_law_made" = true) (k26 : PySem.W.keepIn K (.ref f_law_made) = true)
    (a27 : PySem.W.nsIn K mainGlobals "law" = some (some (.ref flaw)))
    (l27 : K.lookup flaw = some ⟨oc27, od27, .func (PySem.W.fnOf "law" "law" (defArgs s_law) (defBody s_law) (defScope s_law) .none kV27 dc27 pm27 an27 cd27 ct27), sl27⟩) (c27 : PySem.W.codeIn K cd27 "law" = true) (k27 : PySem.W.keepIn K (.ref flaw) = true)
    (z_any : PySem.W.nsIn K mainGlobals "any" = some none)
    (z_int : PySem.W.nsIn K mainGlobals "int" = some none)
    (z_len : PySem.W.nsIn K mainGlobals "len" = some none)
    (z_max : PySem.W.nsIn K mainGlobals "max" = some none)
    (z_min : PySem.W.nsIn K mainGlobals "min" = some none)
    (z_range : PySem.W.nsIn K mainGlobals "range" = some none)
    (z_set : PySem.W.nsIn K mainGlobals "set" = some none)
    (z_sorted : PySem.W.nsIn K mainGlobals "sorted" = some none)
    (z_tuple : PySem.W.nsIn K mainGlobals "tuple" = some none)
    (z_zip : PySem.W.nsIn K mainGlobals "zip" = some none)
    : ∃ A : Adr, A.flaw = fa ∧ Txt K mg A ∧ (∀ (s : Shared) (v : Value), BindsTo s A.dlaw ⟨[v], []⟩ [("script", v)]) := by
  have e := hfa.symm.trans (PySem.W.mg_of X G a27)
  cases e
  have F1 := fun_mk (st := s_rectangle_region) l1 c1 k1
  have b1 := F1.binds (ps := ["x", "y", "width", "height"]) fun _ _ _ _ _ _ us hl => match us, hl with | [_, _, _, _], _ => rfl
  have F2 := fun_mk (st := s_united) l2 c2 k2
  have b2 := F2.binds (ps := ["a", "b"]) fun _ _ _ _ _ _ us hl => match us, hl with | [_, _], _ => rfl
  have F3 := fun_mk (st := s_common) l3 c3 k3
  have b3 := F3.binds (ps := ["a", "b"]) fun _ _ _ _ _ _ us hl => match us, hl with | [_, _], _ => rfl
  have F4 := fun_mk (st := s_without) l4 c4 k4
  have b4 := F4.binds (ps := ["a", "b"]) fun _ _ _ _ _ _ us hl => match us, hl with | [_, _], _ => rfl
  have F5 := fun_mk (st := s_shifted) l5 c5 k5
  have b5 := F5.binds (ps := ["region", "dx", "dy"]) fun _ _ _ _ _ _ us hl => match us, hl with | [_, _, _], _ => rfl
  have F6 := fun_mk (st := s_has_square) l6 c6 k6
  have b6 := F6.binds (ps := ["region", "x", "y"]) fun _ _ _ _ _ _ us hl => match us, hl with | [_, _, _], _ => rfl
  have F7 := fun_mk (st := s__either) l7 c7 k7
  have b7 := F7.binds (ps := ["first", "second"]) fun _ _ _ _ _ _ us hl => match us, hl with | [_, _], _ => rfl
  have F8 := fun_mk (st := s__first_alone) l8 c8 k8
  have b8 := F8.binds (ps := ["first", "second"]) fun _ _ _ _ _ _ us hl => match us, hl with | [_, _], _ => rfl
  have F9 := fun_mk (st := s__combined) l9 c9 k9
  have b9 := F9.binds (ps := ["a", "b", "keeps"]) fun _ _ _ _ _ _ us hl => match us, hl with | [_, _, _], _ => rfl
  have F10 := fun_mk (st := s__combined_spans) l10 c10 k10
  have b10 := F10.binds (ps := ["a", "b", "keeps"]) fun _ _ _ _ _ _ us hl => match us, hl with | [_, _, _], _ => rfl
  have F11 := fun_mk (st := s__common_spans) l11 c11 k11
  have b11 := F11.binds (ps := ["a", "b"]) fun _ _ _ _ _ _ us hl => match us, hl with | [_, _], _ => rfl
  have F12 := fun_mk (st := s__spans_of) l12 c12 k12
  have b12 := F12.binds (ps := ["band"]) fun _ _ _ _ _ _ us hl => match us, hl with | [_], _ => rfl
  have F13 := fun_mk (st := s__pieces) l13 c13 k13
  have b13 := F13.binds (ps := ["a", "b"]) fun _ _ _ _ _ _ us hl => match us, hl with | [_, _], _ => rfl
  have F14 := fun_mk (st := s__first_ending_behind) l14 c14 k14
  have b14 := F14.binds (ps := ["rows", "at", "place"]) fun _ _ _ _ _ _ us hl => match us, hl with | [_, _, _], _ => rfl
  have F15 := fun_mk (st := s__row_from) l15 c15 k15
  have b15 := F15.binds (ps := ["rows", "at", "place"]) fun _ _ _ _ _ _ us hl => match us, hl with | [_, _, _], _ => rfl
  have F16 := fun_mk (st := s__joined) l16 c16 k16
  have b16 := F16.binds (ps := ["bands"]) fun _ _ _ _ _ _ us hl => match us, hl with | [_], _ => rfl
  have F17 := fun_mk (st := s__law_cell) l17 c17 k17
  have b17 := F17.binds (ps := ["script", "k"]) fun _ _ _ _ _ _ us hl => match us, hl with | [_, _], _ => rfl
  have F18 := fun_mk (st := s__law_row) l18 c18 k18
  have b18 := F18.binds (ps := ["script", "k"]) fun _ _ _ _ _ _ us hl => match us, hl with | [_, _], _ => rfl
  have F19 := fun_mk (st := s__law_rect) l19 c19 k19
  have b19 := F19.binds (ps := ["row"]) fun _ _ _ _ _ _ us hl => match us, hl with | [_], _ => rfl
  have F20 := fun_mk (st := s__law_in_rect) l20 c20 k20
  have b20 := F20.binds (ps := ["rect", "x", "y"]) fun _ _ _ _ _ _ us hl => match us, hl with | [_, _, _], _ => rfl
  have F21 := fun_mk (st := s__law_grid) l21 c21 k21
  have b21 := F21.binds (ps := ["rect"]) fun _ _ _ _ _ _ us hl => match us, hl with | [_], _ => rfl
  have F22 := fun_mk (st := s__law_grid_good) l22 c22 k22
  have b22 := F22.binds (ps := ["region", "grid"]) fun _ _ _ _ _ _ us hl => match us, hl with | [_, _], _ => rfl
  have F23 := fun_mk (st := s__law_both) l23 c23 k23
  have b23 := F23.binds (ps := ["deed", "one", "two"]) fun _ _ _ _ _ _ us hl => match us, hl with | [_, _, _], _ => rfl
  have F24 := fun_mk (st := s__law_join) l24 c24 k24
  have b24 := F24.binds (ps := ["deed", "a", "b"]) fun _ _ _ _ _ _ us hl => match us, hl with | [_, _, _], _ => rfl
  have F25 := fun_mk (st := s__law_apply) l25 c25 k25
  have b25 := F25.binds (ps := ["deed", "a", "b"]) fun _ _ _ _ _ _ us hl => match us, hl with | [_, _, _], _ => rfl
  have F26 := fun_mk (st := s__law_made) l26 c26 k26
  have b26 := F26.binds (ps := ["script", "first", "many"]) fun _ _ _ _ _ _ us hl => match us, hl with | [_, _, _], _ => rfl
  have F27 := fun_mk (st := s_law) l27 c27 k27
  have b27 := F27.binds (ps := ["script"]) fun _ _ _ _ _ _ us hl => match us, hl with | [_], _ => rfl
  refine ⟨{ frectangle_region := frectangle_region, drectangle_region := (PySem.W.fnOf "rectangle_region" "rectangle_region" (defArgs s_rectangle_region) (defBody s_rectangle_region) (defScope s_rectangle_region) .none kV1 dc1 pm1 an1 cd1 ct1), funited := funited, dunited := (PySem.W.fnOf "united" "united" (defArgs s_united) (defBody s_united) (defScope s_united) .none kV2 dc2 pm2 an2 cd2 ct2), fcommon := fcommon, dcommon := (PySem.W.fnOf "common" "common" (defArgs s_common) (defBody s_common) (defScope s_common) .none kV3 dc3 pm3 an3 cd3 ct3), fwithout := fwithout, dwithout := (PySem.W.fnOf "without" "without" (defArgs s_without) (defBody s_without) (defScope s_without) .none kV4 dc4 pm4 an4 cd4 ct4), fshifted := fshifted, dshifted := (PySem.W.fnOf "shifted" "shifted" (defArgs s_shifted) (defBody s_shifted) (defScope s_shifted) .none kV5 dc5 pm5 an5 cd5 ct5), fhas_square := fhas_square, dhas_square := (PySem.W.fnOf "has_square" "has_square" (defArgs s_has_square) (defBody s_has_square) (defScope s_has_square) .none kV6 dc6 pm6 an6 cd6 ct6), f_either := f_either, d_either := (PySem.W.fnOf "_either" "_either" (defArgs s__either) (defBody s__either) (defScope s__either) .none kV7 dc7 pm7 an7 cd7 ct7), f_first_alone := f_first_alone, d_first_alone := (PySem.W.fnOf "_first_alone" "_first_alone" (defArgs s__first_alone) (defBody s__first_alone) (defScope s__first_alone) .none kV8 dc8 pm8 an8 cd8 ct8), f_combined := f_combined, d_combined := (PySem.W.fnOf "_combined" "_combined" (defArgs s__combined) (defBody s__combined) (defScope s__combined) .none kV9 dc9 pm9 an9 cd9 ct9), f_combined_spans := f_combined_spans, d_combined_spans := (PySem.W.fnOf "_combined_spans" "_combined_spans" (defArgs s__combined_spans) (defBody s__combined_spans) (defScope s__combined_spans) .none kV10 dc10 pm10 an10 cd10 ct10), f_common_spans := f_common_spans, d_common_spans := (PySem.W.fnOf "_common_spans" "_common_spans" (defArgs s__common_spans) (defBody s__common_spans) (defScope s__common_spans) .none kV11 dc11 pm11 an11 cd11 ct11), f_spans_of := f_spans_of, d_spans_of := (PySem.W.fnOf "_spans_of" "_spans_of" (defArgs s__spans_of) (defBody s__spans_of) (defScope s__spans_of) .none kV12 dc12 pm12 an12 cd12 ct12), f_pieces := f_pieces, d_pieces := (PySem.W.fnOf "_pieces" "_pieces" (defArgs s__pieces) (defBody s__pieces) (defScope s__pieces) .none kV13 dc13 pm13 an13 cd13 ct13), f_first_ending_behind := f_first_ending_behind, d_first_ending_behind := (PySem.W.fnOf "_first_ending_behind" "_first_ending_behind" (defArgs s__first_ending_behind) (defBody s__first_ending_behind) (defScope s__first_ending_behind) .none kV14 dc14 pm14 an14 cd14 ct14), f_row_from := f_row_from, d_row_from := (PySem.W.fnOf "_row_from" "_row_from" (defArgs s__row_from) (defBody s__row_from) (defScope s__row_from) .none kV15 dc15 pm15 an15 cd15 ct15), f_joined := f_joined, d_joined := (PySem.W.fnOf "_joined" "_joined" (defArgs s__joined) (defBody s__joined) (defScope s__joined) .none kV16 dc16 pm16 an16 cd16 ct16), f_law_cell := f_law_cell, d_law_cell := (PySem.W.fnOf "_law_cell" "_law_cell" (defArgs s__law_cell) (defBody s__law_cell) (defScope s__law_cell) .none kV17 dc17 pm17 an17 cd17 ct17), f_law_row := f_law_row, d_law_row := (PySem.W.fnOf "_law_row" "_law_row" (defArgs s__law_row) (defBody s__law_row) (defScope s__law_row) .none kV18 dc18 pm18 an18 cd18 ct18), f_law_rect := f_law_rect, d_law_rect := (PySem.W.fnOf "_law_rect" "_law_rect" (defArgs s__law_rect) (defBody s__law_rect) (defScope s__law_rect) .none kV19 dc19 pm19 an19 cd19 ct19), f_law_in_rect := f_law_in_rect, d_law_in_rect := (PySem.W.fnOf "_law_in_rect" "_law_in_rect" (defArgs s__law_in_rect) (defBody s__law_in_rect) (defScope s__law_in_rect) .none kV20 dc20 pm20 an20 cd20 ct20), f_law_grid := f_law_grid, d_law_grid := (PySem.W.fnOf "_law_grid" "_law_grid" (defArgs s__law_grid) (defBody s__law_grid) (defScope s__law_grid) .none kV21 dc21 pm21 an21 cd21 ct21), f_law_grid_good := f_law_grid_good, d_law_grid_good := (PySem.W.fnOf "_law_grid_good" "_law_grid_good" (defArgs s__law_grid_good) (defBody s__law_grid_good) (defScope s__law_grid_good) .none kV22 dc22 pm22 an22 cd22 ct22), f_law_both := f_law_both, d_law_both := (PySem.W.fnOf "_law_both" "_law_both" (defArgs s__law_both) (defBody s__law_both) (defScope s__law_both) .none kV23 dc23 pm23 an23 cd23 ct23), f_law_join := f_law_join, d_law_join := (PySem.W.fnOf "_law_join" "_law_join" (defArgs s__law_join) (defBody s__law_join) (defScope s__law_join) .none kV24 dc24 pm24 an24 cd24 ct24), f_law_apply := f_law_apply, d_law_apply := (PySem.W.fnOf "_law_apply" "_law_apply" (defArgs s__law_apply) (defBody s__law_apply) (defScope s__law_apply) .none kV25 dc25 pm25 an25 cd25 ct25), f_law_made := f_law_made, d_law_made := (PySem.W.fnOf "_law_made" "_law_made" (defArgs s__law_made) (defBody s__law_made) (defScope s__law_made) .none kV26 dc26 pm26 an26 cd26 ct26), flaw := fa, dlaw := (PySem.W.fnOf "law" "law" (defArgs s_law) (defBody s_law) (defScope s_law) .none kV27 dc27 pm27 an27 cd27 ct27) }, rfl, { Frectangle_region := F1, brectangle_region := b1, grectangle_region := PySem.W.mg_of X G a1, krectangle_region := k1, Funited := F2, bunited := b2, gunited := PySem.W.mg_of X G a2, kunited := k2, Fcommon := F3, bcommon := b3, gcommon := PySem.W.mg_of X G a3, kcommon := k3, Fwithout := F4, bwithout := b4, gwithout := PySem.W.mg_of X G a4, kwithout := k4, Fshifted := F5, bshifted := b5, gshifted := PySem.W.mg_of X G a5, kshifted := k5, Fhas_square := F6, bhas_square := b6, ghas_square := PySem.W.mg_of X G a6, khas_square := k6, F_either := F7, b_either := b7, g_either := PySem.W.mg_of X G a7, k_either := k7, F_first_alone := F8, b_first_alone := b8, g_first_alone := PySem.W.mg_of X G a8, k_first_alone := k8, F_combined := F9, b_combined := b9, g_combined := PySem.W.mg_of X G a9, k_combined := k9, F_combined_spans := F10, b_combined_spans := b10, g_combined_spans := PySem.W.mg_of X G a10, k_combined_spans := k10, F_common_spans := F11, b_common_spans := b11, g_common_spans := PySem.W.mg_of X G a11, k_common_spans := k11, F_spans_of := F12, b_spans_of := b12, g_spans_of := PySem.W.mg_of X G a12, k_spans_of := k12, F_pieces := F13, b_pieces := b13, g_pieces := PySem.W.mg_of X G a13, k_pieces := k13, F_first_ending_behind := F14, b_first_ending_behind := b14, g_first_ending_behind := PySem.W.mg_of X G a14, k_first_ending_behind := k14, F_row_from := F15, b_row_from := b15, g_row_from := PySem.W.mg_of X G a15, k_row_from := k15, F_joined := F16, b_joined := b16, g_joined := PySem.W.mg_of X G a16, k_joined := k16, F_law_cell := F17, b_law_cell := b17, g_law_cell := PySem.W.mg_of X G a17, k_law_cell := k17, F_law_row := F18, b_law_row := b18, g_law_row := PySem.W.mg_of X G a18, k_law_row := k18, F_law_rect := F19, b_law_rect := b19, g_law_rect := PySem.W.mg_of X G a19, k_law_rect := k19, F_law_in_rect := F20, b_law_in_rect := b20, g_law_in_rect := PySem.W.mg_of X G a20, k_law_in_rect := k20, F_law_grid := F21, b_law_grid := b21, g_law_grid := PySem.W.mg_of X G a21, k_law_grid := k21, F_law_grid_good := F22, b_law_grid_good := b22, g_law_grid_good := PySem.W.mg_of X G a22, k_law_grid_good := k22, F_law_both := F23, b_law_both := b23, g_law_both := PySem.W.mg_of X G a23, k_law_both := k23, F_law_join := F24, b_law_join := b24, g_law_join := PySem.W.mg_of X G a24, k_law_join := k24, F_law_apply := F25, b_law_apply := b25, g_law_apply := PySem.W.mg_of X G a25, k_law_apply := k25, F_law_made := F26, b_law_made := b26, g_law_made := PySem.W.mg_of X G a26, k_law_made := k26, Flaw := F27, blaw := b27, glaw := PySem.W.mg_of X G a27, klaw := k27, any := PySem.W.mg_none_of X G z_any, int := PySem.W.mg_none_of X G z_int, len := PySem.W.mg_none_of X G z_len, max := PySem.W.mg_none_of X G z_max, min := PySem.W.mg_none_of X G z_min, range := PySem.W.mg_none_of X G z_range, set := PySem.W.mg_none_of X G z_set, sorted := PySem.W.mg_none_of X G z_sorted, tuple := PySem.W.mg_none_of X G z_tuple, zip := PySem.W.mg_none_of X G z_zip }, fun s v => .of_eq rfl⟩
theorem walk {l : PySem.W.OpenLaw} {q : Program} {loose : List Str} {XP : (Str → Option Value) → Heap → Prop} {YP : World → Heap → Prop} {d : DefRec} {K : Params → PySem.W.Frag} (hn : l.most = some 63) (hdf : d.params.defaults = [])
    (hY : ∀ (w : World) (h : Heap), YP w h → (K w.params).In h)
    (F : ∀ (w : World) (mg : Str → Option Value) (fa : Addr) (h : Heap), (K w.params).In h → h.Ns mainGlobals mg → mg d.name = some (.ref fa) →
      ∃ A : Adr, A.flaw = fa ∧ Txt (K w.params) mg A ∧ (∀ (s : Shared) (v : Value), BindsTo s A.dlaw ⟨[v], []⟩ [("script", v)])) :
    PySem.W.WalkO q loose XP YP l.row.toRowW d [] (fun f vs => PySem.call f vs) :=
  L2.walk_of (n := 63) (k := 8) (x := "script") (CX := fun _ => CX0) (sp := fun w => sp_law (K w.params)) hn (by decide) hdf ⟨rfl, by decide, by decide⟩ hY (fun w mg fa h X G hfa => by
    obtain ⟨A, rfl, T, b⟩ := F w mg fa h X G hfa
    exact ⟨A.dlaw, b, fun base _ _ => ok_law T⟩) (fun _ _ a ns hl _ hS => ⟨a, ns, rfl, hS, hl, fun _ => rfl⟩) fun _ _ _ _ _ z => z
end My
open PySem PySem.W PyProof.Rows
set_option maxRecDepth 100000 in
set_option maxHeartbeats 0 in
theorem PySem.Challenge.cw_sillwatch_k26_whole_algebra_holds : PySem.Challenge.rw_sillwatch_k26_whole_algebra.Holds := by
  w_on; o_law; k_head; (case hw => w_witness2)
  k_fill
  refine My.walk (l := PySem.Challenge.rw_sillwatch_k26_whole_algebra) rfl rfl (fun w h Y => PySem.W.kIn_of Y) ?F
  case F =>
    intro w mg fa h KX G hmg
    refine' My.all_mk KX G hmg ?a1 ?l1 ?c1 ?k1 ?a2 ?l2 ?c2 ?k2 ?a3 ?l3 ?c3 ?k3 ?a4 ?l4 ?c4 ?k4 ?a5 ?l5 ?c5 ?k5 ?a6 ?l6 ?c6 ?k6 ?a7 ?l7 ?c7 ?k7 ?a8 ?l8 ?c8 ?k8 ?a9 ?l9 ?c9 ?k9 ?a10 ?l10 ?c10 ?k10 ?a11 ?l11 ?c11 ?k11 ?a12 ?l12 ?c12 ?k12 ?a13 ?l13 ?c13 ?k13 ?a14 ?l14 ?c14 ?k14 ?a15 ?l15 ?c15 ?k15 ?a16 ?l16 ?c16 ?k16 ?a17 ?l17 ?c17 ?k17 ?a18 ?l18 ?c18 ?k18 ?a19 ?l19 ?c19 ?k19 ?a20 ?l20 ?c20 ?k20 ?a21 ?l21 ?c21 ?k21 ?a22 ?l22 ?c22 ?k22 ?a23 ?l23 ?c23 ?k23 ?a24 ?l24 ?c24 ?k24 ?a25 ?l25 ?c25 ?k25 ?a26 ?l26 ?c26 ?k26 ?a27 ?l27 ?c27 ?k27 ?z_any ?z_int ?z_len ?z_max ?z_min ?z_range ?z_set ?z_sorted ?z_tuple ?z_zip
    (case a1 => k_is)
    (case l1 => k_is)
    (case c1 => k_is)
    (case k1 => k_is)
    (case a2 => k_is)
    (case l2 => k_is)
    (case c2 => k_is)
    (case k2 => k_is)
    (case a3 => k_is)
    (case l3 => k_is)
    (case c3 => k_is)
    (case k3 => k_is)
    (case a4 => k_is)
    (case l4 => k_is)
    (case c4 => k_is)
    (case k4 => k_is)
    (case a5 => k_is)
    (case l5 => k_is)
    (case c5 => k_is)
    (case k5 => k_is)
    (case a6 => k_is)
    (case l6 => k_is)
    (case c6 => k_is)
    (case k6 => k_is)
    (case a7 => k_is)
    (case l7 => k_is)
    (case c7 => k_is)
    (case k7 => k_is)
    (case a8 => k_is)
    (case l8 => k_is)
    (case c8 => k_is)
    (case k8 => k_is)
    (case a9 => k_is)
    (case l9 => k_is)
    (case c9 => k_is)
    (case k9 => k_is)
    (case a10 => k_is)
    (case l10 => k_is)
    (case c10 => k_is)
    (case k10 => k_is)
    (case a11 => k_is)
    (case l11 => k_is)
    (case c11 => k_is)
    (case k11 => k_is)
    (case a12 => k_is)
    (case l12 => k_is)
    (case c12 => k_is)
    (case k12 => k_is)
    (case a13 => k_is)
    (case l13 => k_is)
    (case c13 => k_is)
    (case k13 => k_is)
    (case a14 => k_is)
    (case l14 => k_is)
    (case c14 => k_is)
    (case k14 => k_is)
    (case a15 => k_is)
    (case l15 => k_is)
    (case c15 => k_is)
    (case k15 => k_is)
    (case a16 => k_is)
    (case l16 => k_is)
    (case c16 => k_is)
    (case k16 => k_is)
    (case a17 => k_is)
    (case l17 => k_is)
    (case c17 => k_is)
    (case k17 => k_is)
    (case a18 => k_is)
    (case l18 => k_is)
    (case c18 => k_is)
    (case k18 => k_is)
    (case a19 => k_is)
    (case l19 => k_is)
    (case c19 => k_is)
    (case k19 => k_is)
    (case a20 => k_is)
    (case l20 => k_is)
    (case c20 => k_is)
    (case k20 => k_is)
    (case a21 => k_is)
    (case l21 => k_is)
    (case c21 => k_is)
    (case k21 => k_is)
    (case a22 => k_is)
    (case l22 => k_is)
    (case c22 => k_is)
    (case k22 => k_is)
    (case a23 => k_is)
    (case l23 => k_is)
    (case c23 => k_is)
    (case k23 => k_is)
    (case a24 => k_is)
    (case l24 => k_is)
    (case c24 => k_is)
    (case k24 => k_is)
    (case a25 => k_is)
    (case l25 => k_is)
    (case c25 => k_is)
    (case k25 => k_is)
    (case a26 => k_is)
    (case l26 => k_is)
    (case c26 => k_is)
    (case k26 => k_is)
    (case a27 => k_is)
    (case l27 => k_is)
    (case c27 => k_is)
    (case k27 => k_is)
    (case z_any => k_is)
    (case z_int => k_is)
    (case z_len => k_is)
    (case z_max => k_is)
    (case z_min => k_is)
    (case z_range => k_is)
    (case z_set => k_is)
    (case z_sorted => k_is)
    (case z_tuple => k_is)
    (case z_zip => k_is)
