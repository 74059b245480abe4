import PyProof.Rows.All
import Wide.All
import OpenK.AllK
import Wide.FinOn
import HandS.ForMost
import HandS.Exc
import HandS.TryOnly
import HandS.ExcOwn
import HandS.WordsExc
import HandS.IsInst
import HandS.Wide
import HandS.Flow
import HandS.More
import HandS.Codes
import HandS.Walk
import HandS.TupLe
import HandS.WordsDict
import HandS.Conv
import HandS.TryMany
import HandS.ExcIs
import KE.KBits
import HandS.CallLocal
import HandS.Strs
import HandS.SetFor
import HandS.Set
import HandS.Property
import KE.GoesMore
import KE.KTurns
import KE.KDictZip
import HandS.SetKeys
import HandS.Keys
import HandS.Remove
import HandS.Rev
import HandS.Star
import KE.KUnpackStar
import HandS.SortInts
import HandS.ExcIs
import PySem.Challenge.RW_sillwatch_k25_steps
set_option Elab.async false
set_option linter.all false
set_option maxRecDepth 100000
set_option maxHeartbeats 4000000
namespace My
open PySem L2
def topS (i : Nat) : Stmt := PySem.Challenge.pw_sillwatch_k25_steps.main.body.getD i (.Pass ⟨0, 0, 0, 0⟩)
abbrev s_rectangle_region : Stmt := topS 5
abbrev s_united : Stmt := topS 6
abbrev s_common : Stmt := topS 7
abbrev s_without : Stmt := topS 8
abbrev s_shifted : Stmt := topS 9
abbrev s_scaled : Stmt := topS 10
abbrev s_turned : Stmt := topS 11
abbrev s_mirrored : Stmt := topS 12
abbrev s_rectangles : Stmt := topS 13
abbrev s__either : Stmt := topS 14
abbrev s__first_alone : Stmt := topS 15
abbrev s__combined : Stmt := topS 16
abbrev s__combined_spans : Stmt := topS 17
abbrev s__common_spans : Stmt := topS 18
abbrev s__spans_of : Stmt := topS 19
abbrev s__pieces : Stmt := topS 20
abbrev s__first_ending_behind : Stmt := topS 21
abbrev s__row_from : Stmt := topS 22
abbrev s__joined : Stmt := topS 23
abbrev s__column_marks : Stmt := topS 24
abbrev s_region_of : Stmt := topS 28
abbrev s__after_step : Stmt := topS 29
abbrev s__check : Stmt := topS 30
abbrev s__is_far : Stmt := topS 31
abbrev s__law_cell : Stmt := topS 33
abbrev s__law_row : Stmt := topS 34
abbrev s__law_step : Stmt := topS 35
abbrev s__law_far : Stmt := topS 36
abbrev s__law_comb : Stmt := topS 37
abbrev s__law_after : Stmt := topS 38
abbrev s__law_fault : Stmt := topS 39
abbrev s__law_told : Stmt := topS 40
abbrev s_law : Stmt := topS 41
structure Adr where
  frectangle_region : Addr
  drectangle_region : FuncData
  funited : Addr
  dunited : FuncData
  fcommon : Addr
  dcommon : FuncData
  fwithout : Addr
  dwithout : FuncData
  fshifted : Addr
  dshifted : FuncData
  fscaled : Addr
  dscaled : FuncData
  fturned : Addr
  dturned : FuncData
  fmirrored : Addr
  dmirrored : FuncData
  frectangles : Addr
  drectangles : FuncData
  f_either : Addr
  d_either : FuncData
  f_first_alone : Addr
  d_first_alone : FuncData
  f_combined : Addr
  d_combined : FuncData
  f_combined_spans : Addr
  d_combined_spans : FuncData
  f_common_spans : Addr
  d_common_spans : FuncData
  f_spans_of : Addr
  d_spans_of : FuncData
  f_pieces : Addr
  d_pieces : FuncData
  f_first_ending_behind : Addr
  d_first_ending_behind : FuncData
  f_row_from : Addr
  d_row_from : FuncData
  f_joined : Addr
  d_joined : FuncData
  f_column_marks : Addr
  d_column_marks : FuncData
  fregion_of : Addr
  dregion_of : FuncData
  f_after_step : Addr
  d_after_step : FuncData
  f_check : Addr
  d_check : FuncData
  f_is_far : Addr
  d_is_far : FuncData
  f_law_cell : Addr
  d_law_cell : FuncData
  f_law_row : Addr
  d_law_row : FuncData
  f_law_step : Addr
  d_law_step : FuncData
  f_law_far : Addr
  d_law_far : FuncData
  f_law_comb : Addr
  d_law_comb : FuncData
  f_law_after : Addr
  d_law_after : FuncData
  f_law_fault : Addr
  d_law_fault : FuncData
  f_law_told : Addr
  d_law_told : FuncData
  flaw : Addr
  dlaw : FuncData
  tFARTHEST : Tok
  tMOST_RECTANGLES : Tok
  CDisplayError : Addr
  CRegionTooLarge : Addr
  CRegionTooComplex : Addr
structure Txt (K : PySem.W.Frag) (mg : Str → Option Value) (A : Adr) : Prop where
  Frectangle_region : Fun K "rectangle_region" "rectangle_region" s_rectangle_region A.frectangle_region A.drectangle_region
  brectangle_region : Binds K A.drectangle_region ["x", "y", "width", "height"] []
  grectangle_region : mg "rectangle_region" = some (.ref A.frectangle_region)
  krectangle_region : PySem.W.keepIn K (.ref A.frectangle_region) = true
  Funited : Fun K "united" "united" s_united A.funited A.dunited
  bunited : Binds K A.dunited ["a", "b"] []
  gunited : mg "united" = some (.ref A.funited)
  kunited : PySem.W.keepIn K (.ref A.funited) = true
  Fcommon : Fun K "common" "common" s_common A.fcommon A.dcommon
  bcommon : Binds K A.dcommon ["a", "b"] []
  gcommon : mg "common" = some (.ref A.fcommon)
  kcommon : PySem.W.keepIn K (.ref A.fcommon) = true
  Fwithout : Fun K "without" "without" s_without A.fwithout A.dwithout
  bwithout : Binds K A.dwithout ["a", "b"] []
  gwithout : mg "without" = some (.ref A.fwithout)
  kwithout : PySem.W.keepIn K (.ref A.fwithout) = true
  Fshifted : Fun K "shifted" "shifted" s_shifted A.fshifted A.dshifted
  bshifted : Binds K A.dshifted ["region", "dx", "dy"] []
  gshifted : mg "shifted" = some (.ref A.fshifted)
  kshifted : PySem.W.keepIn K (.ref A.fshifted) = true
  Fscaled : Fun K "scaled" "scaled" s_scaled A.fscaled A.dscaled
  bscaled : Binds K A.dscaled ["region", "n"] []
  gscaled : mg "scaled" = some (.ref A.fscaled)
  kscaled : PySem.W.keepIn K (.ref A.fscaled) = true
  Fturned : Fun K "turned" "turned" s_turned A.fturned A.dturned
  bturned : Binds K A.dturned ["region", "height"] []
  gturned : mg "turned" = some (.ref A.fturned)
  kturned : PySem.W.keepIn K (.ref A.fturned) = true
  Fmirrored : Fun K "mirrored" "mirrored" s_mirrored A.fmirrored A.dmirrored
  bmirrored : Binds K A.dmirrored ["region", "width"] []
  gmirrored : mg "mirrored" = some (.ref A.fmirrored)
  kmirrored : PySem.W.keepIn K (.ref A.fmirrored) = true
  Frectangles : Fun K "rectangles" "rectangles" s_rectangles A.frectangles A.drectangles
  brectangles : Binds K A.drectangles ["region"] []
  grectangles : mg "rectangles" = some (.ref A.frectangles)
  krectangles : PySem.W.keepIn K (.ref A.frectangles) = true
  F_either : Fun K "_either" "_either" s__either A.f_either A.d_either
  b_either : Binds K A.d_either ["first", "second"] []
  g_either : mg "_either" = some (.ref A.f_either)
  k_either : PySem.W.keepIn K (.ref A.f_either) = true
  F_first_alone : Fun K "_first_alone" "_first_alone" s__first_alone A.f_first_alone A.d_first_alone
  b_first_alone : Binds K A.d_first_alone ["first", "second"] []
  g_first_alone : mg "_first_alone" = some (.ref A.f_first_alone)
  k_first_alone : PySem.W.keepIn K (.ref A.f_first_alone) = true
  F_combined : Fun K "_combined" "_combined" s__combined A.f_combined A.d_combined
  b_combined : Binds K A.d_combined ["a", "b", "keeps"] []
  g_combined : mg "_combined" = some (.ref A.f_combined)
  k_combined : PySem.W.keepIn K (.ref A.f_combined) = true
  F_combined_spans : Fun K "_combined_spans" "_combined_spans" s__combined_spans A.f_combined_spans A.d_combined_spans
  b_combined_spans : Binds K A.d_combined_spans ["a", "b", "keeps"] []
  g_combined_spans : mg "_combined_spans" = some (.ref A.f_combined_spans)
  k_combined_spans : PySem.W.keepIn K (.ref A.f_combined_spans) = true
  F_common_spans : Fun K "_common_spans" "_common_spans" s__common_spans A.f_common_spans A.d_common_spans
  b_common_spans : Binds K A.d_common_spans ["a", "b"] []
  g_common_spans : mg "_common_spans" = some (.ref A.f_common_spans)
  k_common_spans : PySem.W.keepIn K (.ref A.f_common_spans) = true
  F_spans_of : Fun K "_spans_of" "_spans_of" s__spans_of A.f_spans_of A.d_spans_of
  b_spans_of : Binds K A.d_spans_of ["band"] []
  g_spans_of : mg "_spans_of" = some (.ref A.f_spans_of)
  k_spans_of : PySem.W.keepIn K (.ref A.f_spans_of) = true
  F_pieces : Fun K "_pieces" "_pieces" s__pieces A.f_pieces A.d_pieces
  b_pieces : Binds K A.d_pieces ["a", "b"] []
  g_pieces : mg "_pieces" = some (.ref A.f_pieces)
  k_pieces : PySem.W.keepIn K (.ref A.f_pieces) = true
  F_first_ending_behind : Fun K "_first_ending_behind" "_first_ending_behind" s__first_ending_behind A.f_first_ending_behind A.d_first_ending_behind
  b_first_ending_behind : Binds K A.d_first_ending_behind ["rows", "at", "place"] []
  g_first_ending_behind : mg "_first_ending_behind" = some (.ref A.f_first_ending_behind)
  k_first_ending_behind : PySem.W.keepIn K (.ref A.f_first_ending_behind) = true
  F_row_from : Fun K "_row_from" "_row_from" s__row_from A.f_row_from A.d_row_from
  b_row_from : Binds K A.d_row_from ["rows", "at", "place"] []
  g_row_from : mg "_row_from" = some (.ref A.f_row_from)
  k_row_from : PySem.W.keepIn K (.ref A.f_row_from) = true
  F_joined : Fun K "_joined" "_joined" s__joined A.f_joined A.d_joined
  b_joined : Binds K A.d_joined ["bands"] []
  g_joined : mg "_joined" = some (.ref A.f_joined)
  k_joined : PySem.W.keepIn K (.ref A.f_joined) = true
  F_column_marks : Fun K "_column_marks" "_column_marks" s__column_marks A.f_column_marks A.d_column_marks
  b_column_marks : Binds K A.d_column_marks ["region", "height"] []
  g_column_marks : mg "_column_marks" = some (.ref A.f_column_marks)
  k_column_marks : PySem.W.keepIn K (.ref A.f_column_marks) = true
  Fregion_of : Fun K "region_of" "region_of" s_region_of A.fregion_of A.dregion_of
  bregion_of : Binds K A.dregion_of ["steps"] []
  gregion_of : mg "region_of" = some (.ref A.fregion_of)
  kregion_of : PySem.W.keepIn K (.ref A.fregion_of) = true
  F_after_step : Fun K "_after_step" "_after_step" s__after_step A.f_after_step A.d_after_step
  b_after_step : Binds K A.d_after_step ["region", "step"] []
  g_after_step : mg "_after_step" = some (.ref A.f_after_step)
  k_after_step : PySem.W.keepIn K (.ref A.f_after_step) = true
  F_check : Fun K "_check" "_check" s__check A.f_check A.d_check
  b_check : Binds K A.d_check ["region"] []
  g_check : mg "_check" = some (.ref A.f_check)
  k_check : PySem.W.keepIn K (.ref A.f_check) = true
  F_is_far : Fun K "_is_far" "_is_far" s__is_far A.f_is_far A.d_is_far
  b_is_far : Binds K A.d_is_far ["band"] []
  g_is_far : mg "_is_far" = some (.ref A.f_is_far)
  k_is_far : PySem.W.keepIn K (.ref A.f_is_far) = true
  F_law_cell : Fun K "_law_cell" "_law_cell" s__law_cell A.f_law_cell A.d_law_cell
  b_law_cell : Binds K A.d_law_cell ["script", "k"] []
  g_law_cell : mg "_law_cell" = some (.ref A.f_law_cell)
  k_law_cell : PySem.W.keepIn K (.ref A.f_law_cell) = true
  F_law_row : Fun K "_law_row" "_law_row" s__law_row A.f_law_row A.d_law_row
  b_law_row : Binds K A.d_law_row ["script", "k"] []
  g_law_row : mg "_law_row" = some (.ref A.f_law_row)
  k_law_row : PySem.W.keepIn K (.ref A.f_law_row) = true
  F_law_step : Fun K "_law_step" "_law_step" s__law_step A.f_law_step A.d_law_step
  b_law_step : Binds K A.d_law_step ["row"] []
  g_law_step : mg "_law_step" = some (.ref A.f_law_step)
  k_law_step : PySem.W.keepIn K (.ref A.f_law_step) = true
  F_law_far : Fun K "_law_far" "_law_far" s__law_far A.f_law_far A.d_law_far
  b_law_far : Binds K A.d_law_far ["row"] []
  g_law_far : mg "_law_far" = some (.ref A.f_law_far)
  k_law_far : PySem.W.keepIn K (.ref A.f_law_far) = true
  F_law_comb : Fun K "_law_comb" "_law_comb" s__law_comb A.f_law_comb A.d_law_comb
  b_law_comb : Binds K A.d_law_comb ["row"] []
  g_law_comb : mg "_law_comb" = some (.ref A.f_law_comb)
  k_law_comb : PySem.W.keepIn K (.ref A.f_law_comb) = true
  F_law_after : Fun K "_law_after" "_law_after" s__law_after A.f_law_after A.d_law_after
  b_law_after : Binds K A.d_law_after ["region", "step"] []
  g_law_after : mg "_law_after" = some (.ref A.f_law_after)
  k_law_after : PySem.W.keepIn K (.ref A.f_law_after) = true
  F_law_fault : Fun K "_law_fault" "_law_fault" s__law_fault A.f_law_fault A.d_law_fault
  b_law_fault : Binds K A.d_law_fault ["region"] []
  g_law_fault : mg "_law_fault" = some (.ref A.f_law_fault)
  k_law_fault : PySem.W.keepIn K (.ref A.f_law_fault) = true
  F_law_told : Fun K "_law_told" "_law_told" s__law_told A.f_law_told A.d_law_told
  b_law_told : Binds K A.d_law_told ["steps"] []
  g_law_told : mg "_law_told" = some (.ref A.f_law_told)
  k_law_told : PySem.W.keepIn K (.ref A.f_law_told) = true
  Flaw : Fun K "law" "law" s_law A.flaw A.dlaw
  blaw : Binds K A.dlaw ["script"] []
  glaw : mg "law" = some (.ref A.flaw)
  klaw : PySem.W.keepIn K (.ref A.flaw) = true
  any : mg "any" = none
  int : mg "int" = none
  isinstance : mg "isinstance" = none
  len : mg "len" = none
  list : mg "list" = none
  max : mg "max" = none
  min : mg "min" = none
  range : mg "range" = none
  reversed : mg "reversed" = none
  set : mg "set" = none
  sorted : mg "sorted" = none
  tuple : mg "tuple" = none
  zip : mg "zip" = none
  gFARTHEST : mg "FARTHEST" = some (.int (1073741824) A.tFARTHEST)
  gMOST_RECTANGLES : mg "MOST_RECTANGLES" = some (.int (1000) A.tMOST_RECTANGLES)
  gDisplayError : mg "DisplayError" = some (.ref A.CDisplayError)
  xDisplayError : PySem.W.excIn K A.CDisplayError [.type "ValueError", .type "Exception", .type "BaseException", .type "object"] "ValueError.__new__" = true
  kDisplayError : PySem.W.keepIn K (.ref A.CDisplayError) = true
  bxDisplayError : PySem.W.subIn K (.ref A.CDisplayError) (.type "BaseException") = some true
  txDisplayError : PySem.W.typeIn K (.ref A.CDisplayError) = some (.type "type")
  exDisplayError : PySem.W.exmOne K (.ref A.CDisplayError) (.ref A.CDisplayError) = some true
  gRegionTooLarge : mg "RegionTooLarge" = some (.ref A.CRegionTooLarge)
  xRegionTooLarge : PySem.W.excIn K A.CRegionTooLarge [.type "ValueError", .type "Exception", .type "BaseException", .type "object"] "ValueError.__new__" = true
  kRegionTooLarge : PySem.W.keepIn K (.ref A.CRegionTooLarge) = true
  bxRegionTooLarge : PySem.W.subIn K (.ref A.CRegionTooLarge) (.type "BaseException") = some true
  txRegionTooLarge : PySem.W.typeIn K (.ref A.CRegionTooLarge) = some (.type "type")
  exRegionTooLarge : PySem.W.exmOne K (.ref A.CRegionTooLarge) (.ref A.CRegionTooLarge) = some true
  gRegionTooComplex : mg "RegionTooComplex" = some (.ref A.CRegionTooComplex)
  xRegionTooComplex : PySem.W.excIn K A.CRegionTooComplex [.type "ValueError", .type "Exception", .type "BaseException", .type "object"] "ValueError.__new__" = true
  kRegionTooComplex : PySem.W.keepIn K (.ref A.CRegionTooComplex) = true
  bxRegionTooComplex : PySem.W.subIn K (.ref A.CRegionTooComplex) (.type "BaseException") = some true
  txRegionTooComplex : PySem.W.typeIn K (.ref A.CRegionTooComplex) = some (.type "type")
  exRegionTooComplex : PySem.W.exmOne K (.ref A.CRegionTooComplex) (.ref A.CRegionTooComplex) = some true
  iERegionTooLarge : ExcC K A.CRegionTooLarge
  kitRegionTooLarge_DisplayError : PySem.W.kitOne K (.ref A.CRegionTooLarge) (.ref A.CDisplayError) = some true
  kitRegionTooLarge_RegionTooComplex : PySem.W.kitOne K (.ref A.CRegionTooLarge) (.ref A.CRegionTooComplex) = some false
  kitRegionTooLarge_RegionTooLarge : PySem.W.kitOne K (.ref A.CRegionTooLarge) (.ref A.CRegionTooLarge) = some true
  iERegionTooComplex : ExcC K A.CRegionTooComplex
  kitRegionTooComplex_DisplayError : PySem.W.kitOne K (.ref A.CRegionTooComplex) (.ref A.CDisplayError) = some true
  kitRegionTooComplex_RegionTooComplex : PySem.W.kitOne K (.ref A.CRegionTooComplex) (.ref A.CRegionTooComplex) = some true
  kitRegionTooComplex_RegionTooLarge : PySem.W.kitOne K (.ref A.CRegionTooComplex) (.ref A.CRegionTooLarge) = some false
  exDisplayError_RegionTooLarge : PySem.W.exmOne K (.ref A.CDisplayError) (.ref A.CRegionTooLarge) = some false
  exDisplayError_RegionTooComplex : PySem.W.exmOne K (.ref A.CDisplayError) (.ref A.CRegionTooComplex) = some false
  exRegionTooLarge_DisplayError : PySem.W.exmOne K (.ref A.CRegionTooLarge) (.ref A.CDisplayError) = some true
  exRegionTooLarge_RegionTooComplex : PySem.W.exmOne K (.ref A.CRegionTooLarge) (.ref A.CRegionTooComplex) = some false
  exRegionTooComplex_DisplayError : PySem.W.exmOne K (.ref A.CRegionTooComplex) (.ref A.CDisplayError) = some true
  exRegionTooComplex_RegionTooLarge : PySem.W.exmOne K (.ref A.CRegionTooComplex) (.ref A.CRegionTooLarge) = some false
section
variable {P : Program} {w : World} {K : PySem.W.Frag} {mg : Str → Option Value} {base : Heap} {A : Adr}
/-! ### common: tests, errors, small words -/
theorem exm_self {K : PySem.W.Frag} {S : Addr} (h1 : PySem.W.subIn K (.ref S) (.type "BaseException") = some true) (h2 : PySem.W.isClsIn K S = true) (h3 : PySem.W.typeIn K (.ref S) = some (.type "type")) (h4 : PySem.W.subIn K (.ref S) (.ref S) = some true) :
    PySem.W.exmOne K (.ref S) (.ref S) = some true := by
  have g1 : (PySem.W.subIn K (.ref S) (.type "BaseException") == some true) = true := by rw [h1]; rfl
  have g0 : (PySem.W.clsIn K S).isSome = true := h2
  have g2 : ((PySem.W.clsIn K S).isSome && PySem.W.typeIn K (.ref S) == some (.type "type")) = true := by rw [g0, h3]; rfl
  show (if (PySem.W.subIn K (.ref S) (.type "BaseException") == some true) = true then (if ((PySem.W.clsIn K S).isSome && PySem.W.typeIn K (.ref S) == some (.type "type")) = true then PySem.W.subIn K (.ref S) (.ref S) else none) else none) = some true
  rw [if_pos g1, if_pos g2]
  exact h4
theorem exm_cross {K : PySem.W.Frag} {S R : Addr} {b : Bool} (h1 : PySem.W.subIn K (.ref S) (.type "BaseException") = some true) (h2 : PySem.W.isClsIn K S = true) (h3 : PySem.W.typeIn K (.ref S) = some (.type "type")) (h4 : PySem.W.subIn K (.ref R) (.ref S) = some b) :
    PySem.W.exmOne K (.ref R) (.ref S) = some b := by
  have g1 : (PySem.W.subIn K (.ref S) (.type "BaseException") == some true) = true := by rw [h1]; rfl
  have g0 : (PySem.W.clsIn K S).isSome = true := h2
  have g2 : ((PySem.W.clsIn K S).isSome && PySem.W.typeIn K (.ref S) == some (.type "type")) = true := by rw [g0, h3]; rfl
  show (if (PySem.W.subIn K (.ref S) (.type "BaseException") == some true) = true then (if ((PySem.W.clsIn K S).isSome && PySem.W.typeIn K (.ref S) == some (.type "type")) = true then PySem.W.subIn K (.ref R) (.ref S) else none) else none) = some b
  rw [if_pos g1, if_pos g2]
  exact h4
/-- the law's own promise -/
def sp_law (K : PySem.W.Frag) : Sp := fun vs H Q _ => ∃ (a : Addr) (ns : List Int), vs = [.ref a] ∧ SqL K H a (ns.map V.int) ∧ ns.length ≤ 63 ∧ ∀ H', Q (.bl true) H'
theorem iteP {p A B : Prop} [Decidable p] (h1 : p → A) (h2 : ¬ p → B) : if decide p = true then A else B := by
  by_cases h : p
  · rw [decide_eq_true h]; exact iteT (h1 h)
  · rw [decide_eq_false h]; exact iteF (h2 h)
theorem iteN {p A B : Prop} [Decidable p] (h1 : ¬ p → A) (h2 : p → B) : if (!decide p) = true then A else B := by
  by_cases h : p
  · rw [decide_eq_true h]; exact iteF (h2 h)
  · rw [decide_eq_false h]; exact iteT (h1 h)
theorem iteEq {i j : Int} {A B : Prop} (h1 : i = j → A) (h2 : i ≠ j → B) : if decide (V.int i = V.int j) = true then A else B :=
  iteP (fun h => h1 (V.int.inj h)) (fun h => h2 fun e => h (congrArg V.int e))
theorem iteNe {i j : Int} {A B : Prop} (h1 : i ≠ j → A) (h2 : i = j → B) : if (!decide (V.int i = V.int j)) = true then A else B :=
  iteN (fun h => h1 fun e => h (congrArg V.int e)) (fun h => h2 (V.int.inj h))
theorem if_t {b : Bool} {A B : Prop} (e : b = true) (h : A) : if b = true then A else B := by rw [if_pos e]; exact h
theorem if_f {b : Bool} {A B : Prop} (e : b = false) (h : B) : if b = true then A else B := by rw [e]; exact iteF h
theorem if_b {b : Bool} {A B : Prop} (h1 : b = true → A) (h2 : b = false → B) : if b = true then A else B := by
  cases b with
  | true => exact iteT (h1 rfl)
  | false => exact iteF (h2 rfl)
theorem same_upd {H : Hp} {p : Addr} {o : HO} (h : H p = none) : Same H (upd H p o) := fun b x e => by
  rw [upd_ne (ne_of_none e h)]
  exact e
theorem len_line {n : Nat} (h : n ≤ 100000) : n ≤ sizeLine := Nat.le_trans h (by decide)
theorem lt_line {n : Nat} (h : n < 100000) : n < sizeLine := Nat.lt_of_lt_of_le h (by decide)
local macro_rules | `(tactic| walk_at "rd") => `(tactic| repeat (first
  | refine ⟨_, rfl, ?_⟩
  | refine ⟨_, _, rfl, rfl, ?_⟩
  | refine ⟨rfl, ?_⟩
  | refine Or.inl ⟨_, rfl, ?_⟩
  | refine ⟨(by show (0 : Int) < _; decide), ?_⟩
  | refine ⟨(⟨by decide, by decide⟩ : CDiv _ _), ?_⟩
  | refine ⟨(Or.inl ⟨by decide, by decide⟩ : CMul _ _), ?_⟩
  | refine ⟨(Or.inr ⟨by decide, by decide⟩ : CMul _ _), ?_⟩))
/-! ### data that are compared -/
def Sh (n : Nat) (d : PyData) : Prop := d.canLay0 = true ∧ d.depth ≤ n
theorem Sh.mono {n m : Nat} {d : PyData} (h : Sh n d) (l : n ≤ m) : Sh m d := ⟨h.1, Nat.le_trans h.2 l⟩
theorem sh_all : ∀ {n : Nat} {ds : List PyData}, (∀ d ∈ ds, Sh n d) → PyData.canLayAll0 ds = true ∧ PyData.depthAll ds ≤ n
  | n, [], _ => ⟨by simp [PyData.canLayAll0], by simp [PyData.depthAll]⟩
  | n, d :: ds, h => by
    have h1 := h d List.mem_cons_self
    have h2 := sh_all fun e he => h e (List.mem_cons_of_mem _ he)
    refine ⟨?_, ?_⟩
    · simp only [PyData.canLayAll0, Bool.and_eq_true]; exact ⟨h1.1, h2.1⟩
    · simp only [PyData.depthAll]; exact Nat.max_le.mpr ⟨h1.2, h2.2⟩
theorem sh_list {n : Nat} {ds : List PyData} (h : ∀ d ∈ ds, Sh n d) : Sh (n + 1) (.list ds) := by
  have q := sh_all h
  exact ⟨by simp only [PyData.canLay0]; exact q.1, by simp only [PyData.depth]; exact Nat.succ_le_succ q.2⟩
theorem sh_tuple {n : Nat} {ds : List PyData} (h : ∀ d ∈ ds, Sh n d) : Sh (n + 1) (.tuple ds) := by
  have q := sh_all h
  exact ⟨by simp only [PyData.canLay0]; exact q.1, by simp only [PyData.depth]; exact Nat.succ_le_succ q.2⟩
theorem sh_int (i : Int) : Sh 0 (.int i) := ⟨by simp [PyData.canLay0], by simp [PyData.depth]⟩
theorem sh_bool (i : Bool) : Sh 0 (.bool i) := ⟨by simp [PyData.canLay0], by simp [PyData.depth]⟩
theorem sh_none : Sh 0 .none := ⟨by simp [PyData.canLay0], by simp [PyData.depth]⟩
theorem sh_str {s : Str} (h : PyData.strOk s = true) : Sh 0 (.str s) := ⟨by simp only [PyData.canLay0]; exact h, by simp [PyData.depth]⟩
theorem Sh.shaped {n : Nat} {d : PyData} (h : Sh n d) (l : n ≤ 64 := by decide) : SeqAt.shaped d = true := by
  show (d.canLay0 && decide (d.depth ≤ 64)) = true
  rw [h.1, decide_eq_true (Nat.le_trans h.2 l)]
  rfl
theorem Sh.self {n : Nat} {d : PyData} (h : Sh n d) : PyData.eqv d d = true := SeqAt.eqv_refl d h.1
def pInts (xs : List Int) : PyData := .list (xs.map PyData.int)
theorem sh_ints (xs : List Int) : Sh 1 (pInts xs) := sh_list fun d hd => by
  obtain ⟨i, _, rfl⟩ := List.mem_map.mp hd
  exact sh_int i
theorem dpall_ints {K : PySem.W.Frag} {H : Hp} : ∀ xs : List Int, DpAll K H (xs.map V.int) (xs.map PyData.int)
  | [] => .nil
  | x :: r => .cons (.int x) (dpall_ints r)
theorem dp_ints {K : PySem.W.Frag} {H : Hp} {p : Addr} {xs : List Int} (h : SqL K H p (xs.map V.int)) : Dp K H (.ref p) (pInts xs) := .lst h (dpall_ints xs)
/-! ### views: what is new, what stands -/
structure Ext (V H V' H' : Hp) : Prop where
  vv : Same V V'
  vh : Same V' H'
  hh : Same H H'
  nw : ∀ a, V' a ≠ none → V a ≠ none ∨ H a = none
theorem Ext.refl {V H : Hp} (h : Same V H) : Ext V H V H := ⟨Same.refl V, h, Same.refl H, fun _ h => Or.inl h⟩
theorem Ext.trans {V H V1 H1 V2 H2 : Hp} (a : Ext V H V1 H1) (b : Ext V1 H1 V2 H2) : Ext V H V2 H2 :=
  ⟨a.vv.trans b.vv, b.vh, a.hh.trans b.hh, fun x h => by
    rcases b.nw x h with q | q
    · exact a.nw x q
    · exact Or.inr (a.hh.free q)⟩
theorem none_of_same {V H : Hp} {p : Addr} (s : Same V H) (h : H p = none) : V p = none := s.free h
theorem Ext.new {V H : Hp} {p : Addr} {o : HO} (s : Same V H) (h : H p = none) : Ext V H (upd V p o) (upd H p o) :=
  ⟨same_upd (s.free h), fun b u e => by
    by_cases hb : b = p
    · subst hb; rw [upd_same] at e ⊢; exact e
    · rw [upd_ne hb] at e ⊢; exact s b u e, same_upd h, fun a e => by
    by_cases ha : a = p
    · subst ha; exact Or.inr h
    · rw [upd_ne ha] at e; exact Or.inl e⟩
/-- a new object that the view does not take in -/
theorem Ext.skip {V H : Hp} {p : Addr} {o : HO} (s : Same V H) (h : H p = none) : Ext V H V (upd H p o) :=
  ⟨Same.refl V, s.trans (same_upd h), same_upd h, fun _ e => Or.inl e⟩
theorem Ext.keepOut {V H V' H' : Hp} (x : Ext V H V' H') {D : Addr} (h : V D = none) (hd : H D ≠ none) : V' D = none := by
  cases e : V' D with
  | none => rfl
  | some o =>
    rcases x.nw D (by rw [e]; exact fun z => by cases z) with q | q
    · exact absurd h q
    · exact absurd q hd
/-- an object outside of the view changes -/
theorem Ext.poke {V H V' H' : Hp} (x : Ext V H V' H') {D : Addr} {o : HO} (hd : H D = none) (h : V' D = none) : Ext V H V' (upd H' D o) :=
  ⟨x.vv, fun b u e => by
    have hb : b ≠ D := fun z => by rw [z, h] at e; cases e
    rw [upd_ne hb]; exact x.vh b u e, fun b u e => by
    have hb : b ≠ D := ne_of_none e hd
    rw [upd_ne hb]; exact x.hh b u e, x.nw⟩
/-- the object at D, done, is taken in -/
theorem Ext.take {V H V' H' : Hp} (x : Ext V H V' H') {D : Addr} {o : HO} (hd : H D = none) (h : V' D = none) (e : H' D = some o) : Ext V H (upd V' D o) H' :=
  ⟨x.vv.trans (same_upd h), fun b u q => by
    by_cases hb : b = D
    · subst hb; rw [upd_same] at q; rw [e]; exact q
    · rw [upd_ne hb] at q; exact x.vh b u q, x.hh, fun a q => by
    by_cases ha : a = D
    · subst ha; exact Or.inr hd
    · rw [upd_ne ha] at q; exact x.nw a q⟩
theorem _root_.L2.Same.sqt {K : PySem.W.Frag} {H H' : Hp} {a : Addr} {xs : List V} (e : Same H H') (h : SqT K H a xs) : SqT K H' a xs := by
  rcases h with (h | ⟨o, h⟩) | h
  · exact .inl (.inl (e _ _ h))
  · exact .inl (.inr ⟨o, e _ _ h⟩)
  · exact .inr h
mutual
theorem dp_same {K : PySem.W.Frag} {H H' : Hp} (s : Same H H') : ∀ (d : PyData) (v : V), Dp K H v d → Dp K H' v d
  | .none, _, h => by cases h; exact .non
  | .bool b, _, h => by cases h; exact .bl b
  | .int i, _, h => by cases h; exact .int i
  | .str x, _, h => by cases h; exact .str x
  | .list ds, _, h => by
    cases h with
    | lst q r => exact .lst (s.seq q) (dpall_same s ds _ r)
  | .tuple ds, _, h => by
    cases h with
    | tup q r => exact .tup (s.sqt q) (dpall_same s ds _ r)
  | .dict _, _, h => by cases h
theorem dpall_same {K : PySem.W.Frag} {H H' : Hp} (s : Same H H') : ∀ (ds : List PyData) (vs : List V), DpAll K H vs ds → DpAll K H' vs ds
  | [], _, h => by cases h; exact .nil
  | d :: ds, _, h => by
    cases h with
    | cons q r => exact .cons (dp_same s d _ q) (dpall_same s ds _ r)
end
theorem _root_.L2.Dp.to {K : PySem.W.Frag} {H H' : Hp} {v : V} {d : PyData} (h : Dp K H v d) (s : Same H H') : Dp K H' v d := dp_same s d v h
theorem _root_.L2.DpAll.to {K : PySem.W.Frag} {H H' : Hp} {v : List V} {d : List PyData} (h : DpAll K H v d) (s : Same H H') : DpAll K H' v d := dpall_same s d v h
theorem dpall_len {K : PySem.W.Frag} {H : Hp} : ∀ {vs : List V} {ds : List PyData}, DpAll K H vs ds → vs.length = ds.length
  | _, [], h => by cases h; rfl
  | _, d :: ds, h => by
    cases h with
    | cons q r => exact congrArg (· + 1) (dpall_len r)
theorem dpall_get {K : PySem.W.Frag} {H : Hp} : ∀ {vs : List V} {ds : List PyData} {i : Nat} {v : V}, DpAll K H vs ds → vs[i]? = some v → ∃ d, ds[i]? = some d ∧ Dp K H v d
  | _, [], i, v, h, e => by cases h; cases e
  | _, d :: ds, i, v, h, e => by
    cases h with
    | cons q r =>
      match i, e with
      | 0, e => cases e; exact ⟨d, rfl, q⟩
      | i + 1, e => exact dpall_get (i := i) r e
theorem dpall_get' {K : PySem.W.Frag} {H : Hp} : ∀ {vs : List V} {ds : List PyData} {i : Nat} {d : PyData}, DpAll K H vs ds → ds[i]? = some d → ∃ v, vs[i]? = some v ∧ Dp K H v d
  | _, [], i, d, h, e => by cases e
  | _, d :: ds, i, d', h, e => by
    cases h with
    | cons q r =>
      match i, e with
      | 0, e => cases e; exact ⟨_, rfl, q⟩
      | i + 1, e => exact dpall_get' (i := i) r e
theorem dpall_app {K : PySem.W.Frag} {H : Hp} : ∀ {vs ws : List V} {ds es : List PyData}, DpAll K H vs ds → DpAll K H ws es → DpAll K H (vs ++ ws) (ds ++ es)
  | _, _, [], _, h, g => by cases h; exact g
  | _, _, d :: ds, _, h, g => by
    cases h with
    | cons q r => exact .cons q (dpall_app r g)
theorem dp_list {K : PySem.W.Frag} {H : Hp} {v : V} {ds : List PyData} (h : Dp K H v (.list ds)) : ∃ a xs, v = .ref a ∧ SqL K H a xs ∧ DpAll K H xs ds := by
  cases h with
  | lst q r => exact ⟨_, _, rfl, q, r⟩
theorem dp_tuple {K : PySem.W.Frag} {H : Hp} {v : V} {ds : List PyData} (h : Dp K H v (.tuple ds)) : ∃ a xs, v = .ref a ∧ SqT K H a xs ∧ DpAll K H xs ds := by
  cases h with
  | tup q r => exact ⟨_, _, rfl, q, r⟩
theorem dp_int {K : PySem.W.Frag} {H : Hp} {v : V} {i : Int} (h : Dp K H v (.int i)) : v = .int i := by cases h; rfl
theorem dp_str {K : PySem.W.Frag} {H : Hp} {v : V} {i : Str} (h : Dp K H v (.str i)) : v = .str i := by cases h; rfl
theorem dp_bool {K : PySem.W.Frag} {H : Hp} {v : V} {i : Bool} (h : Dp K H v (.bool i)) : v = .bl i := by cases h; rfl
/-! ### comprehensions over any walk -/
def fm {α : Type} (f : Nat → Option α) (n : Nat) : List α := (List.range n).filterMap f
theorem fm_succ {α : Type} (f : Nat → Option α) (n : Nat) : fm f (n + 1) = fm f n ++ (f n).toList := by
  unfold fm
  rw [List.range_succ, List.filterMap_append]
  congr 1
theorem fm_len {α : Type} (f : Nat → Option α) (n : Nat) : (fm f n).length ≤ n := by
  have h := List.length_filterMap_le f (List.range n)
  rw [List.length_range] at h
  exact h
structure LcInv (K : PySem.W.Frag) (V0 H0 : Hp) (D : Addr) (acc : List PyData) (H : Hp) : Prop where
  ex : ∃ V xs, Ext V0 H0 V H ∧ V D = none ∧ H D = some (.lst xs) ∧ DpAll K V xs acc
theorem LcInv.start {K : PySem.W.Frag} {V0 H0 : Hp} {D : Addr} (s : Same V0 H0) (hD : H0 D = none) : LcInv K V0 H0 D [] (upd H0 D (.lst [])) :=
  ⟨V0, [], Ext.skip s hD, s.free hD, upd_same, .nil⟩
theorem LcInv.done {K : PySem.W.Frag} {V0 H0 H : Hp} {D : Addr} {acc : List PyData} (hD : H0 D = none) (i : LcInv K V0 H0 D acc H) : ∃ U xs, Ext V0 H0 U H ∧ U D = some (.lst xs) ∧ DpAll K U xs acc ∧ Dp K U (.ref D) (.list acc) := by
  obtain ⟨V, xs, x, hv, hd, dp⟩ := i.ex
  exact ⟨_, xs, x.take hD hv hd, upd_same, dp.to (same_upd hv), .lst (SqL.of upd_same) (dp.to (same_upd hv))⟩
/-- one more item -/
theorem LcInv.push {K : PySem.W.Frag} {V0 H0 U H U' H' : Hp} {D : Addr} {acc : List PyData} {xs : List V} {y : V} {d : PyData} (hD : H0 D = none) (x : Ext V0 H0 U H) (hv : U D = none) (hd : H D = some (.lst xs)) (dp : DpAll K U xs acc)
    (x2 : Ext U H U' H') (e : Dp K U' y d) (hl : acc.length < 100000) :
    ∃ acc', H' D = some (.lst acc') ∧ acc'.length < sizeLine ∧ LcInv K V0 H0 D (acc ++ [d]) (upd H' D (.lst (acc' ++ [y]))) := by
  have hv' : U' D = none := x2.keepOut hv (by rw [hd]; exact fun z => by cases z)
  refine ⟨xs, x2.hh _ _ hd, lt_line (by rw [dpall_len dp]; exact hl), U', xs ++ [y], (x.trans x2).poke hD hv', hv', upd_same, dpall_app (dp.to x2.vv) (.cons e .nil)⟩
/-- a comprehension's reading over a walk that leaves the heap as it is: at turn i the item x, then f i: the data of what is put in, or none -/
theorem lc_dp0 {J : It} {n : Nat} {G : Hp → Prop} {Y : Nat → Hp → V → Hp → Prop} (wk : Walk J n G Y) {K : PySem.W.Frag} {V0 H0 : Hp} {D : Addr} {g : TG} {tt : TT} {te : TE} {vs : List Nat} {σ : St} {Qd : Hp → Prop} (f : Nat → Option PyData) (σ0 : St) (hσ : wipe σ vs = σ0) (s0 : Same V0 H0) (hD : H0 D = none) (hn : n < 100000)
    (hG : ∀ H, Same H0 H → G H) (hY : ∀ i H x H', Y i H x H' → H' = H)
    (hs : ∀ i x V H, i < n → Ext V0 H0 V H → Y i H x H → ∀ (Qy : VK) (Qn : Hp → Prop), (∀ d y V' H', f i = some d → Ext V H V' H' → Dp K V' y d → Qy y H') → (f i = none → ∀ V' H', Ext V H V' H' → Qn H') →
      g x σ0 H fun σ2 H2 => wipe σ2 vs = σ0 ∧ tt σ2 H2 fun b H3 => if b = true then te σ2 H3 Qy else Qn H3)
    (hd : ∀ (U H : Hp) (xs : List V), Ext V0 H0 U H → U D = none → H D = some (.lst xs) → DpAll K U xs (fm f n) → Qd H) :
    ∃ W : Nat → Nat → Hp → Prop, (∃ m, W 0 m (upd H0 D (.lst []))) ∧ ∀ i m H, W i m H →
      (J.stop i H ∧ Qd H) ∨ (J.go i H ∧ ∃ Nx : Hp → Prop, (∀ H', Nx H' → ∃ m', m' < m ∧ W (i + 1) m' H') ∧ ∀ x H', J.yld i H x H' → g x (wipe σ vs) H' fun σ2 H2 => wipe σ2 vs = wipe σ vs ∧ tt σ2 H2 fun b H3 =>
        if b = true then te σ2 H3 fun y H4 => ∃ acc, H4 D = some (.lst acc) ∧ acc.length < sizeLine ∧ Nx (upd H4 D (.lst (acc ++ [y]))) else Nx H3) := by
  subst hσ
  refine lc_it wk (fun i H => LcInv K V0 H0 D (fm f i) H) (LcInv.start s0 hD) (fun i H _ p => ?_) (fun i x H H' hi p y => ?_) (fun H p => ?_)
  · obtain ⟨V, xs, x, _⟩ := p.ex
    exact hG H x.hh
  · obtain ⟨V, xs, x0, hv, hdd, dp⟩ := p.ex
    obtain rfl := hY i H x H' y
    refine hs i x V H' hi x0 y _ _ (fun d y' V' H4 e x2 dy => ?_) (fun e V' H4 x2 => ?_)
    · have hl : (fm f i).length < 100000 := Nat.lt_of_le_of_lt (fm_len f i) (Nat.lt_trans hi hn)
      obtain ⟨acc', a1, a2, a3⟩ := LcInv.push hD x0 hv hdd dp x2 dy hl
      refine ⟨acc', a1, a2, ?_⟩
      rw [fm_succ, e]
      exact a3
    · have hv' : V' D = none := x2.keepOut hv (by rw [hdd]; exact fun z => by cases z)
      rw [fm_succ, e]
      show LcInv K V0 H0 D (fm f i ++ []) H4
      rw [List.append_nil]
      exact ⟨V', xs, x0.trans x2, hv', x2.hh _ _ hdd, dp.to x2.vv⟩
  · obtain ⟨U, xs, x, hv, hdd, dp⟩ := p.ex
    exact hd U H xs x hv hdd dp
/-- a comprehension's reading over a walk that leaves the heap as it is: at turn i the item x, then f i: the data of what is put in, or none -/
theorem lc_dp {J : It} {n : Nat} {G : Hp → Prop} {Y : Nat → Hp → V → Hp → Prop} (wk : Walk J n G Y) {K : PySem.W.Frag} {V0 H0 : Hp} {D : Addr} {g : TG} {tt : TT} {te : TE} {vs : List Nat} {σ : St} {Qd : Hp → Prop} (f : Nat → Option PyData) (σ0 : St) (hσ : wipe σ vs = σ0) (s0 : Same V0 H0) (hD : H0 D = none) (hn : n < 100000)
    (hG : ∀ H, Same H0 H → G H) (hY : ∀ i H x H', Y i H x H' → H' = H)
    (hs : ∀ i x V H, i < n → Ext V0 H0 V H → Y i H x H → ∀ (Qy : VK) (Qn : Hp → Prop), (∀ d y V' H', f i = some d → Ext V H V' H' → Dp K V' y d → Qy y H') → (f i = none → ∀ V' H', Ext V H V' H' → Qn H') →
      g x σ0 H fun σ2 H2 => wipe σ2 vs = σ0 ∧ tt σ2 H2 fun b H3 => if b = true then te σ2 H3 Qy else Qn H3)
    (hd : ∀ (U H : Hp) (xs : List V), Ext V0 H0 U H → U D = some (.lst xs) → DpAll K U xs (fm f n) → Dp K U (.ref D) (.list (fm f n)) → Qd H) :
    ∃ W : Nat → Nat → Hp → Prop, (∃ m, W 0 m (upd H0 D (.lst []))) ∧ ∀ i m H, W i m H →
      (J.stop i H ∧ Qd H) ∨ (J.go i H ∧ ∃ Nx : Hp → Prop, (∀ H', Nx H' → ∃ m', m' < m ∧ W (i + 1) m' H') ∧ ∀ x H', J.yld i H x H' → g x (wipe σ vs) H' fun σ2 H2 => wipe σ2 vs = wipe σ vs ∧ tt σ2 H2 fun b H3 =>
        if b = true then te σ2 H3 fun y H4 => ∃ acc, H4 D = some (.lst acc) ∧ acc.length < sizeLine ∧ Nx (upd H4 D (.lst (acc ++ [y]))) else Nx H3) := by
  refine lc_dp0 wk f σ0 hσ s0 hD hn hG hY hs fun U H xs x hv hdd dp => ?_
  exact hd _ H xs (x.take hD hv hdd) upd_same (dp.to (same_upd hv)) (.lst (SqL.of upd_same) (dp.to (same_upd hv)))
theorem fm_map {α β : Type} (f : α → β) : ∀ (xs : List α), fm (fun i => (xs[i]?).map f) xs.length = xs.map f := by
  intro xs
  have h : ∀ n, n ≤ xs.length → fm (fun i => (xs[i]?).map f) n = (xs.take n).map f := by
    intro n
    induction n with
    | zero => intro _; rfl
    | succ n ih =>
      intro hn
      rw [fm_succ, ih (by omega), List.getElem?_eq_getElem (by omega), List.take_succ_eq_append_getElem (by omega), List.map_append]
      rfl
  rw [h _ (Nat.le_refl _), List.take_length]

theorem lc2_outer {J : It} {n : Nat} {G : Hp → Prop} {Y : Nat → Hp → V → Hp → Prop} (wk : Walk J n G Y) {K : PySem.W.Frag} {V0 H0 : Hp} {D : Addr} {g : TG} {vs : List Nat} {σ : St} {body : St → Hp → (Hp → Prop) → Prop} {Qd : Hp → Prop} (F : Nat → List PyData) (σ0 : St) (hσ : wipe σ vs = σ0) (s0 : Same V0 H0) (hD : H0 D = none) (hF : F 0 = [])
    (hG : ∀ H, Same H0 H → G H) (hY : ∀ i H x H', Y i H x H' → H' = H)
    (hs : ∀ i x H, i < n → LcInv K V0 H0 D (F i) H → Y i H x H → ∀ Nx : Hp → Prop, (∀ H', LcInv K V0 H0 D (F (i + 1)) H' → Nx H') → g x σ0 H fun σ2 H2 => wipe σ2 vs = σ0 ∧ body σ2 H2 Nx)
    (hd : ∀ (U H : Hp) (xs : List V), Ext V0 H0 U H → U D = some (.lst xs) → DpAll K U xs (F n) → Dp K U (.ref D) (.list (F n)) → Qd H) :
    ∃ W : Nat → Nat → Hp → Prop, (∃ m, W 0 m (upd H0 D (.lst []))) ∧ ∀ i m H, W i m H →
      (J.stop i H ∧ Qd H) ∨ (J.go i H ∧ ∃ Nx : Hp → Prop, (∀ H', Nx H' → ∃ m', m' < m ∧ W (i + 1) m' H') ∧ ∀ x H', J.yld i H x H' → g x (wipe σ vs) H' fun σ2 H2 => wipe σ2 vs = wipe σ vs ∧ body σ2 H2 Nx) := by
  subst hσ
  refine ⟨fun i m H => m = n - i ∧ i ≤ n ∧ LcInv K V0 H0 D (F i) H, ⟨n, by simp, Nat.zero_le _, by rw [hF]; exact LcInv.start s0 hD⟩, ?_⟩
  rintro i m H ⟨rfl, hi, p⟩
  have sH : Same H0 H := by obtain ⟨_, _, x, _⟩ := p.ex; exact x.hh
  by_cases hlt : i < n
  · refine .inr ⟨wk.goes i H hlt (hG H sH), fun H' => LcInv K V0 H0 D (F (i + 1)) H', fun H' p' => ⟨n - (i + 1), by omega, rfl, hlt, p'⟩, fun x H' y => ?_⟩
    have y' := wk.yields i H x H' hlt (hG H sH) y
    obtain rfl := hY i H x H' y'
    exact hs i x H' hlt p y' _ fun _ h => h
  · have e : i = n := by omega
    subst e
    obtain ⟨U, xs, x, e1, e2, e3⟩ := p.done hD
    exact .inl ⟨wk.stops H (hG H sH), hd U H xs x e1 e2 e3⟩
theorem lc2_inner {J : It} {n : Nat} {G : Hp → Prop} {Y : Nat → Hp → V → Hp → Prop} (wk : Walk J n G Y) {K : PySem.W.Frag} {V0 H0 H4 : Hp} {D : Addr} {acc0 : List PyData} {g : TG} {tt : TT} {te : TE} {vs : List Nat} {σ : St} {Nx : Hp → Prop} (f : Nat → Option PyData) (σ0 : St) (hσ : wipe σ vs = σ0) (hD : H0 D = none)
    (inv : LcInv K V0 H0 D acc0 H4) (hn : acc0.length + n < 100000) (hG : ∀ H, Same H0 H → G H) (hY : ∀ i H x H', Y i H x H' → H' = H)
    (hs : ∀ i x V H, i < n → Ext V0 H0 V H → Y i H x H → ∀ (Qy : VK) (Qn : Hp → Prop), (∀ d y V' H', f i = some d → Ext V H V' H' → Dp K V' y d → Qy y H') → (f i = none → ∀ V' H', Ext V H V' H' → Qn H') →
      g x σ0 H fun σ2 H2 => wipe σ2 vs = σ0 ∧ tt σ2 H2 fun b H3 => if b = true then te σ2 H3 Qy else Qn H3)
    (hd : ∀ H, LcInv K V0 H0 D (acc0 ++ fm f n) H → Nx H) :
    ∃ W : Nat → Nat → Hp → Prop, (∃ m, W 0 m H4) ∧ ∀ i m H, W i m H →
      (J.stop i H ∧ Nx H) ∨ (J.go i H ∧ ∃ Nx1 : Hp → Prop, (∀ H', Nx1 H' → ∃ m', m' < m ∧ W (i + 1) m' H') ∧ ∀ x H', J.yld i H x H' → g x (wipe σ vs) H' fun σ2 H2 => wipe σ2 vs = wipe σ vs ∧ tt σ2 H2 fun b H3 =>
        if b = true then te σ2 H3 fun y H4 => ∃ acc, H4 D = some (.lst acc) ∧ acc.length < sizeLine ∧ Nx1 (upd H4 D (.lst (acc ++ [y]))) else Nx1 H3) := by
  subst hσ
  refine ⟨fun i m H => m = n - i ∧ i ≤ n ∧ LcInv K V0 H0 D (acc0 ++ fm f i) H, ⟨n, by simp, Nat.zero_le _, by rw [show fm f 0 = [] from rfl, List.append_nil]; exact inv⟩, ?_⟩
  rintro i m H ⟨rfl, hi, p⟩
  have sH : Same H0 H := by obtain ⟨_, _, x, _⟩ := p.ex; exact x.hh
  by_cases hlt : i < n
  · refine .inr ⟨wk.goes i H hlt (hG H sH), fun H' => LcInv K V0 H0 D (acc0 ++ fm f (i + 1)) H', fun H' p' => ⟨n - (i + 1), by omega, rfl, hlt, p'⟩, fun x H' y => ?_⟩
    have y' := wk.yields i H x H' hlt (hG H sH) y
    obtain rfl := hY i H x H' y'
    obtain ⟨V, xs, x0, hv, hdd, dp⟩ := p.ex
    refine hs i x V H' hlt x0 y' _ _ (fun d y' V' H4 e x2 dy => ?_) (fun e V' H4 x2 => ?_)
    · have hl : (acc0 ++ fm f i).length < 100000 := by have := fm_len f i; rw [List.length_append]; omega
      obtain ⟨acc', a1, a2, a3⟩ := LcInv.push hD x0 hv hdd dp x2 dy hl
      refine ⟨acc', a1, a2, ?_⟩
      rw [fm_succ, e, ← List.append_assoc]
      exact a3
    · have hv' : V' D = none := x2.keepOut hv (by rw [hdd]; exact fun z => by cases z)
      rw [fm_succ, e]
      show LcInv K V0 H0 D (acc0 ++ (fm f i ++ [])) H4
      rw [List.append_nil]
      exact ⟨V', xs, x0.trans x2, hv', x2.hh _ _ hdd, dp.to x2.vv⟩
  · have e : i = n := by omega
    subst e
    exact .inl ⟨wk.stops H (hG H sH), hd H p⟩
theorem fm_some {α : Type} (f : Nat → α) (n : Nat) : fm (fun i => some (f i)) n = (List.range n).map f := by
  induction n with
  | zero => rfl
  | succ n ih => rw [fm_succ, ih, List.range_succ, List.map_append]; rfl
theorem fl_take' {α : Type} {β : Type} (f : α → List β) : ∀ (xs : List α) (i : Nat) (x : α), xs[i]? = some x → (xs.take (i + 1)).flatMap f = (xs.take i).flatMap f ++ f x := by
  intro xs i x h
  obtain ⟨hi, e⟩ := List.getElem?_eq_some_iff.mp h
  rw [List.take_succ_eq_append_getElem hi, List.flatMap_append, e]
  show _ ++ (f x ++ []) = _
  rw [List.append_nil]
theorem fl_le' {α : Type} {β : Type} (f : α → List β) (xs : List α) (i : Nat) : ((xs.take i).flatMap f).length ≤ (xs.flatMap f).length := by
  have : xs.flatMap f = (xs.take i).flatMap f ++ (xs.drop i).flatMap f := by rw [← List.flatMap_append, List.take_append_drop]
  rw [this, List.length_append]; omega
/-! ### lists of ints, texts -/
theorem tyL {K : PySem.W.Frag} {H : Hp} {a : Addr} {xs : List V} (h : SqL K H a xs) : TyX K H (.ref a) (.type "list") := by
  rcases h with (h | ⟨o, h⟩) | ⟨o, its, n, h, c, _⟩
  · exact .base (.lst h)
  · exact .base (.frz h)
  · exact .kList h c
theorem tyT {K : PySem.W.Frag} {H : Hp} {a : Addr} {xs : List V} (h : SqT K H a xs) : TyX K H (.ref a) (.type "tuple") := by
  rcases h with (h | ⟨o, h⟩) | ⟨o, its, n, h, c, _⟩
  · exact .base (.tup h)
  · exact .fTuple h
  · exact .kTuple h c
theorem dp_intsV {K : PySem.W.Frag} {H : Hp} : ∀ {xs : List V} {is : List Int}, DpAll K H xs (is.map PyData.int) → xs = is.map V.int
  | _, [], r => by cases r; rfl
  | _, i :: is, r => by
    cases r with
    | cons r1 r2 => cases r1; rw [dp_intsV r2]; rfl
theorem dp_intsL {K : PySem.W.Frag} {H : Hp} {a : Addr} {is : List Int} (h : Dp K H (.ref a) (.list (is.map PyData.int))) : SqL K H a (is.map V.int) := by
  obtain ⟨a', xs, e, q, r⟩ := dp_list h
  cases e
  rw [← dp_intsV r]; exact q
theorem dp_strsV {K : PySem.W.Frag} {H : Hp} : ∀ {xs : List V} {is : List Str}, DpAll K H xs (is.map PyData.str) → xs = is.map V.str
  | _, [], r => by cases r; rfl
  | _, i :: is, r => by
    cases r with
    | cons r1 r2 => cases r1; rw [dp_strsV r2]; rfl
theorem dp_boolsV {K : PySem.W.Frag} {H : Hp} : ∀ {xs : List V} {is : List Bool}, DpAll K H xs (is.map PyData.bool) → xs = is.map V.bl
  | _, [], r => by cases r; rfl
  | _, i :: is, r => by
    cases r with
    | cons r1 r2 => cases r1; rw [dp_boolsV r2]; rfl
theorem dp_boolsL {K : PySem.W.Frag} {H : Hp} {a : Addr} {is : List Bool} (h : Dp K H (.ref a) (.list (is.map PyData.bool))) : SqL K H a (is.map V.bl) := by
  obtain ⟨a', xs, e, q, r⟩ := dp_list h
  cases e
  rw [← dp_boolsV r]; exact q
theorem size_eq (z : Str) : z.cps.size = z.cps.toList.length := by simp
theorem cps_at (z : Str) (i : Nat) : z.cps[i]? = z.cps.toList[i]? := by simp
theorem fm_list {α β : Type} (f : α → β) (xs : List α) (n : Nat) (h : n = xs.length) (g : Nat → Option β) (hg : ∀ i x, xs[i]? = some x → g i = some (f x)) : fm g n = xs.map f := by
  subst h
  rw [← fm_map f xs]
  unfold fm
  have : ∀ l : List Nat, (∀ i ∈ l, i < xs.length) → l.filterMap g = l.filterMap fun i => (xs[i]?).map f := by
    intro l
    induction l with
    | nil => intro _; rfl
    | cons i l ih =>
      intro hl
      have hi' := hl i List.mem_cons_self
      rw [List.filterMap_cons, List.filterMap_cons, hg i _ (List.getElem?_eq_getElem hi'), List.getElem?_eq_getElem hi', ih fun j hj => hl j (List.mem_cons_of_mem _ hj)]
      rfl
  exact this _ fun i hi => List.mem_range.mp hi
theorem rep_flat {α : Type} (v : α) : ∀ n : Nat, (List.replicate n [v]).flatten = List.replicate n v
  | 0 => rfl
  | n + 1 => by rw [List.replicate_succ, List.replicate_succ, List.flatten_cons, rep_flat v n]; rfl
/-- a list's object that is tracked, at p, new -/
structure NewL (H H' : Hp) (p : Addr) (xs : List V) : Prop where
  new : H p = none
  same : Same H H'
  at_ : H' p = some (.lst xs)
theorem NewL.ext {U H H' : Hp} {p : Addr} {xs : List V} (n : NewL H H' p xs) (s : Same U H) : Ext U H (upd U p (.lst xs)) H' :=
  ⟨same_upd (s.free n.new), fun b u e => by
    by_cases hb : b = p
    · subst hb; rw [upd_same] at e; rw [n.at_]; exact e
    · rw [upd_ne hb] at e; exact n.same _ _ (s b u e), n.same, fun a e => by
    by_cases ha : a = p
    · subst ha; exact Or.inr n.new
    · rw [upd_ne ha] at e; exact Or.inl e⟩
theorem str_app (x y : Str) : (x ++ y).cps.toList = x.cps.toList ++ y.cps.toList := Array.toList_append
theorem str_len_app (x y : Str) : (x ++ y).length = x.length + y.length := by
  show (x ++ y).cps.size = x.cps.size + y.cps.size
  rw [size_eq, str_app, List.length_append, ← size_eq, ← size_eq]
/-! ### _law_cell, _law_row -/
def lawCell (ns : List Int) (k : Nat) : Int :=
  let c := if 0 < ns.length then ns.getD (k % ns.length) 0 else 0
  if c < 0 then 1 - 2 * c else c
theorem lawCell_nn (ns : List Int) (k : Nat) : 0 ≤ lawCell ns k := by
  unfold lawCell
  simp only
  split <;> omega
def lawOne (c : Int) (k : Nat) : Int := (c * 48271 + (k : Int) * 69621 + 12345) % 2147483647
def lawTwo (o : Int) (k : Nat) : Int := (o * o + 16807 * (k : Int) + 7) % 2147483629
def lawRow (ns : List Int) (k : Nat) : Int :=
  if k < ns.length ∧ 1000000000 ≤ lawCell ns k then lawCell ns k
  else (lawTwo (lawOne (lawCell ns k) k) k * lawTwo (lawOne (lawCell ns k) k) k + lawOne (lawCell ns k) k) % 4294967291 + 4294967296 * (lawOne (lawCell ns k) k + 1)
theorem lawOne_b (c : Int) (k : Nat) : 0 ≤ lawOne c k ∧ lawOne c k < 2147483647 := by unfold lawOne; omega
theorem lawTwo_b (c : Int) (k : Nat) : 0 ≤ lawTwo c k ∧ lawTwo c k < 2147483629 := by
  unfold lawTwo
  generalize c * c + 16807 * (k : Int) + 7 = x
  omega
theorem lawRow_nn (ns : List Int) (k : Nat) : 0 ≤ lawRow ns k := by
  unfold lawRow
  have h1 := lawOne_b (lawCell ns k) k
  split
  · exact lawCell_nn ns k
  · generalize lawTwo (lawOne (lawCell ns k) k) k * lawTwo (lawOne (lawCell ns k) k) k + lawOne (lawCell ns k) k = x
    omega
def sp__law_cell (K : PySem.W.Frag) : Sp := fun vs H Q _ => ∃ (a : Addr) (ns : List Int) (k : Nat), vs = [.ref a, .int (k : Int)] ∧ SqL K H a (ns.map V.int) ∧ Q (.int (lawCell ns k)) H
theorem sc__law_cell : FnScope ["script", "k", "cell"] ["script", "k"] (defScope s__law_cell) := ⟨rfl, rfl, rfl, by decide +kernel, rfl, by decide +kernel, by decide +kernel⟩
theorem ok__law_cell (T : Txt K mg A) : FnOk P w K mg base CX0 1 A.f_law_cell A.d_law_cell ["script", "k"] (sp__law_cell K) := by
  refine T.F_law_cell.ok sc__law_cell (fun vs H Q E h => ?_) (fun cdv Ar outer s H vs Q E hr h => ?_)
  · obtain ⟨a, ns, k, rfl, _⟩ := h
    rfl
  · obtain ⟨a, ns, k, rfl, hS, q⟩ := h
    refine ⟨_, (pss_cons (ps_set (i := 2) sc__law_cell.nd rfl (Or.inl rfl) pe_int)
      (pss_cons (ps_if (pt_cmpR op_gt (pe_callB call_len_seq (by rfl) T.len PySem.boot_len (pa_cons (pv 0) pa_nil)) pe_int (nomark _))
      (pss_one (ps_set (i := 2) sc__law_cell.nd rfl (Or.inl rfl) (pe_ix ix_list (pv 0) (pe_op op_mod (pe_callTy call_int1 (by rfl) T.int (by decide +kernel) (pa_cons (pv 1) pa_nil)) (pe_callB call_len_seq (by rfl) T.len PySem.boot_len (pa_cons (pv 0) pa_nil))) (fun _ _ => rfl))))
      pss_nil)
      (pss_cons (ps_if (pt_cmpR op_lt (pv 2) pe_int (nomark _))
      (pss_one (ps_set (i := 2) sc__law_cell.nd rfl (Or.inl rfl) (pe_op op_sub pe_int (pe_op op_mul pe_int (pv 2)))))
      pss_nil)
      (pss_one (ps_ret (pv 2)))))), ?_⟩
    have two : ∀ (c : Int), (if c < 0 then 1 - 2 * c else c) = lawCell ns k → tSeq (tIfS (tTest (tOp (rI0 fun i j => .bl (decide (i < j))) (tVar 2) (tC (.int 0)))) (tAsg (tOp (rI0 fun i j => .int (i - j)) (tC (.int 1)) (tOp (rI CMul fun i j => .int (i * j)) (tC (.int 2)) (tVar 2))) (gName 2)) tNext) (tRet (tVar 2))
        { nx := fun _ H' => Q .non H', rt := Q } [some (.ref a), some (.int (k : Int)), some (.int c)] H := by
      intro c hc
      walk_at "rd"
      refine iteP (fun h => ?_) (fun h => ?_)
      · rw [if_pos h] at hc
        walk_at "rd"
        rw [← hc] at q; exact q
      · rw [if_neg h] at hc
        walk_at "rd"
        rw [← hc] at q; exact q
    refine ⟨.ref a, rfl, a, _, rfl, .inl hS, _, _, rfl, rfl, _, rfl, iteP (fun h => ?_) (fun h => ?_)⟩
    · have h0 : 0 < ns.length := by rw [List.length_map] at h; omega
      refine ⟨_, rfl, _, rfl, Or.inl ⟨_, rfl, ?_⟩⟩
      refine ⟨_, rfl, a, _, rfl, .inl hS, _, _, rfl, rfl, by show (0 : Int) < _; omega, a, _, _, .int (ns.getD (k % ns.length) 0), rfl, rfl, hS, ?_, ?_⟩
      · refine at_of (j := k % ns.length) ?_ ?_
        · rw [List.length_map]; exact (Int.natCast_emod _ _).symm
        · rw [List.getElem?_map, List.getElem?_eq_getElem (Nat.mod_lt _ h0), List.getD_eq_getElem?_getD, List.getElem?_eq_getElem (Nat.mod_lt _ h0)]; rfl
      · refine two _ ?_
        unfold lawCell; rw [if_pos h0]
    · have h0 : ¬ 0 < ns.length := by rw [List.length_map] at h; omega
      refine two _ ?_
      unfold lawCell; rw [if_neg h0]
def sp__law_row (K : PySem.W.Frag) : Sp := fun vs H Q _ => ∃ (a : Addr) (ns : List Int) (k : Nat), vs = [.ref a, .int (k : Int)] ∧ SqL K H a (ns.map V.int) ∧ Q (.int (lawRow ns k)) H
theorem sc__law_row : FnScope ["script", "k", "cell", "one", "two"] ["script", "k"] (defScope s__law_row) := ⟨rfl, rfl, rfl, by decide +kernel, rfl, by decide +kernel, by decide +kernel⟩
theorem ok__law_row (T : Txt K mg A) : FnOk P w K mg base CX0 2 A.f_law_row A.d_law_row ["script", "k"] (sp__law_row K) := by
  refine T.F_law_row.ok sc__law_row (fun vs H Q E h => ?_) (fun cdv Ar outer s H vs Q E hr h => ?_)
  · obtain ⟨a, ns, k, rfl, _⟩ := h
    rfl
  · obtain ⟨a, ns, k, rfl, hS, q⟩ := h
    refine ⟨_, (pss_cons (ps_set (i := 2) sc__law_row.nd rfl (Or.inl rfl) (pe_call (ok__law_cell T) (hr.mono (by decide)) rfl T.g_law_cell T.k_law_cell T.b_law_cell .nil pass0 (pa_cons (pv 0) (pa_cons (pv 1) pa_nil))))
      (pss_cons (ps_if (PW.pt (pw_and (pt_cmpR op_lt (pv 1) (pe_callB call_len_seq (by rfl) T.len PySem.boot_len (pa_cons (pv 0) pa_nil)) (nomark _)) (pw_and1 (pt_cmpR op_ge (pv 2) pe_int (nomark _)))))
      (pss_one (ps_ret (pv 2)))
      pss_nil)
      (pss_cons (ps_set (i := 3) sc__law_row.nd rfl (Or.inl rfl) (pe_op op_mod (pe_callTy call_int1 (by rfl) T.int (by decide +kernel) (pa_cons (pe_op op_add (pe_op op_add (pe_op op_mul (pv 2) pe_int) (pe_op op_mul (pv 1) pe_int)) pe_int) pa_nil)) pe_int))
      (pss_cons (ps_set (i := 4) sc__law_row.nd rfl (Or.inl rfl) (pe_op op_mod (pe_callTy call_int1 (by rfl) T.int (by decide +kernel) (pa_cons (pe_op op_add (pe_op op_add (pe_op op_mul (pv 3) (pv 3)) (pe_op op_mul pe_int (pv 1))) pe_int) pa_nil)) pe_int))
      (pss_one (ps_ret (pe_op op_add (pe_op op_mod (pe_callTy call_int1 (by rfl) T.int (by decide +kernel) (pa_cons (pe_op op_add (pe_op op_mul (pv 4) (pv 4)) (pv 3)) pa_nil)) pe_int) (pe_op op_mul pe_int (pe_op op_add (pv 3) pe_int))))))))), ?_⟩
    have b1 := lawOne_b (lawCell ns k) k
    have b2 := lawTwo_b (lawOne (lawCell ns k) k) k
    have m1 : CMul (lawOne (lawCell ns k) k) (lawOne (lawCell ns k) k) := Or.inl ⟨by omega, by omega⟩
    have m2 : CMul (lawTwo (lawOne (lawCell ns k) k) k) (lawTwo (lawOne (lawCell ns k) k) k) := Or.inl ⟨by omega, by omega⟩
    refine ⟨_, rfl, _, rfl, a, ns, k, rfl, hS, ?_⟩
    refine ⟨_, rfl, _, rfl, a, _, rfl, .inl hS, _, _, rfl, rfl, _, rfl, ?_⟩
    refine iteP (fun h => ?_) (fun h => ?_)
    · refine ⟨_, rfl, _, _, rfl, rfl, _, rfl, iteP (fun h2 => ?_) (fun h2 => ?_)⟩
      · have e : lawRow ns k = lawCell ns k := by unfold lawRow; rw [if_pos ⟨by rw [List.length_map] at h; omega, h2⟩]
        rw [e] at q
        exact ⟨_, rfl, q⟩
      · unfold lawRow at q
        rw [if_neg fun z => h2 z.2] at q
        walk_at "rd"
        refine ⟨m1, ?_⟩
        walk_at "rd"
        refine ⟨m2, ?_⟩
        walk_at "rd"
        exact q
    · unfold lawRow at q
      rw [if_neg fun z => h (by rw [List.length_map]; omega)] at q
      walk_at "rd"
      refine ⟨m1, ?_⟩
      walk_at "rd"
      refine ⟨m2, ?_⟩
      walk_at "rd"
      exact q
/-! ### a word that goes on by itself -/
theorem iteVP {p A B : Prop} [Decidable p] (h1 : p → A) (h2 : ¬ p → B) : if p then A else B := by
  by_cases h : p
  · rw [if_pos h]; exact h1 h
  · rw [if_neg h]; exact h2 h
/-- a new tuple is handed back -/
def RetT (H : Hp) (Q : VK) (xs : List V) : Prop := ∀ p H', Same H H' → H' p = some (.tup xs) → Q (.ref p) H'
theorem RetT.go {H : Hp} {Q : VK} {xs : List V} (h : ∀ p H', Same H H' → H' p = some (.tup xs) → Q (.ref p) H') : RetT H Q xs := h
theorem ne_self {d e : PyData} {A B : Prop} (hs : SeqAt.shaped d = true) (h : d = e) (hB : B) : if (!PyData.eqv d e) = true then A else B := by
  subst h
  have h2 : (d.canLay0 && decide (d.depth ≤ 64)) = true := hs
  have : PyData.eqv d d = true := SeqAt.eqv_refl d (by rw [Bool.and_eq_true] at h2; exact h2.1)
  rw [this]
  exact iteF hB
theorem eq_self {d e : PyData} {A B : Prop} (hs : SeqAt.shaped d = true) (h : d = e) (hA : A) : if PyData.eqv d e = true then A else B := by
  subst h
  have h2 : (d.canLay0 && decide (d.depth ≤ 64)) = true := hs
  have : PyData.eqv d d = true := SeqAt.eqv_refl d (by rw [Bool.and_eq_true] at h2; exact h2.1)
  rw [this]
  exact iteT hA
theorem t_ne {K : PySem.W.Frag} {x y : V} {H : Hp} {Q : VK} {d e : PyData} (h1 : Dp K H x d) (h2 : Dp K H y e) (s1 : SeqAt.shaped d = true) (s2 : SeqAt.shaped e = true) (q : Q (.bl (!PyData.eqv d e)) H) : rNeD K x y H Q := ⟨d, e, h1, h2, s1, s2, q⟩
theorem t_eq {K : PySem.W.Frag} {x y : V} {H : Hp} {Q : VK} {d e : PyData} (h1 : Dp K H x d) (h2 : Dp K H y e) (s1 : SeqAt.shaped d = true) (s2 : SeqAt.shaped e = true) (q : Q (.bl (PyData.eqv d e)) H) : rEqD K x y H Q := ⟨d, e, h1, h2, s1, s2, q⟩
/-! words that go on by themselves -/
local macro_rules | `(tactic| walk_at "sq") => `(tactic| first
  | exact SqT.of upd_same
  | exact SqL.of upd_same
  | assumption
  | exact SqT.of (by assumption)
  | exact SqL.of (by assumption)
  | (apply Same.sqt (same_upd (by assumption)); walk_at "sq")
  | (apply Same.seq (same_upd (by assumption)); walk_at "sq")
  | (apply Same.sqt (by assumption); walk_at "sq")
  | (apply Same.seq (by assumption); walk_at "sq"))
local macro_rules | `(tactic| walk_at "sm") => `(tactic| first
  | exact Same.refl _
  | assumption
  | (apply Same.trans _ (same_upd (by assumption)); walk_at "sm")
  | (apply Same.trans _ (by assumption); walk_at "sm"))
local macro_rules | `(tactic| walk_at "at") => `(tactic| first
  | exact atI_nat (j := 0) rfl
  | exact atI_nat (j := 1) rfl
  | exact atI_nat (j := 2) rfl
  | exact atI_nat (j := 3) rfl
  | exact atI_nat (j := 4) rfl
  | exact atI_nat (j := 5) rfl)
local macro_rules | `(tactic| walk_at "go1") => `(tactic| first
  | refine ⟨_, rfl, ?_⟩
  | refine ⟨_, _, rfl, rfl, ?_⟩
  | refine ⟨rfl, ?_⟩
  | refine Or.inl ⟨_, rfl, ?_⟩
  | refine ⟨(by show (0 : Int) < _; decide), ?_⟩
  | refine ⟨(⟨by decide, by decide⟩ : CDiv _ _), ?_⟩
  | refine ⟨(Or.inl ⟨by decide, by decide⟩ : CMul _ _), ?_⟩
  | refine ⟨(Or.inr ⟨by decide, by decide⟩ : CMul _ _), ?_⟩
  | refine ⟨_, _, rfl, ?_⟩
  | refine ⟨_, _, _, rfl, ?_⟩
  | refine ⟨_, _, _, _, rfl, ?_⟩
  | (refine And.intro (a := (0 : Int) ≤ _) ?_ ?_; focus omega)
  | (refine And.intro (a := _ ≤ sizeLine) ?_ (fun p hp => ?_); (focus (exact len_line (Nat.le_of_ble_eq_true rfl))))
  | refine RetT.go (fun p H' s e => ?_)
  | refine if_t rfl ?_
  | refine if_f rfl ?_
  | refine ⟨_, _, rfl, (by walk_at "sq"), rfl, ?_⟩
  | refine ⟨_, _, rfl, Or.inl (by walk_at "sq"), ?_⟩
  | refine ⟨_, _, rfl, Or.inr (by walk_at "sq"), ?_⟩
  | refine ⟨_, _, _, _, rfl, rfl, (by walk_at "sq"), (by walk_at "at"), ?_⟩
  | refine ⟨_, _, rfl, (by walk_at "sq"), (by show ¬(HT.sIx 4 0 (some 2) = 0 ∧ HT.sIx 4 4 none = 4); decide), fun p hp => ?_⟩
  | refine ⟨_, _, _, _, rfl, rfl, (by walk_at "sq"), (by walk_at "sq"), (by intro h; cases h), len_line (Nat.le_of_ble_eq_true rfl), (fun h => by cases h), fun _ p hp => ?_⟩)
local macro_rules | `(tactic| walk_at "go") => `(tactic| repeat walk_at "go1")
local macro_rules | `(tactic| walk_at "dps") => `(tactic| first
  | exact DpAll.nil
  | (apply DpAll.cons; (focus (walk_at "dp")); (focus (walk_at "dps"))))
local macro_rules | `(tactic| walk_at "dp") => `(tactic| first
  | exact Dp.int _
  | exact Dp.bl _
  | exact Dp.str _
  | exact Dp.non
  | (apply Dp.tup; (focus (walk_at "sq")); (focus (walk_at "dps")))
  | (apply Dp.lst; (focus (walk_at "sq")); (focus (walk_at "dps"))))
local macro_rules | `(tactic| walk_at "sh") => `(tactic| (show (PyData.canLay0 _ && decide (PyData.depth _ ≤ 64)) = true; simp [PyData.canLay0, PyData.canLayAll0, PyData.depth, PyData.depthAll]))
/-- a deep comparison: what is left is the if -/
local macro_rules | `(tactic| walk_at "ne") => `(tactic| (apply t_ne; (focus (walk_at "dp")); (focus (walk_at "dp")); (focus (walk_at "sh")); (focus (walk_at "sh")); refine ⟨_, rfl, ?_⟩))
local macro_rules | `(tactic| walk_at "neS") => `(tactic| (walk_at "ne"; refine ne_self ?_ ?_ ?_; (focus (walk_at "sh"))))
/-! ### fields of instances whose class is known; words that go on by themselves -/
section
open PySem PySem.Spec PyProof.Rows
def tFldC (C : Addr) (ta : TE) (f : Str) : TE := fun σ H Q => ta σ H fun x H1 => ∃ a dx fs v, x = .ref a ∧ H1 a = some (.ins C dx fs) ∧ fs.lookup f = some v ∧ Q v H1
theorem pe_fldC {X : Cx} {e : Expr} {f : Str} {pos : Pos} {ta : TE} {C : Addr} (c : Cls X.K C) (n : NoAttr X.K C f) (he : PE X e ta) (hb : attributeBase e f X.env (eval e X.env) = eval e X.env) : PE X (.Attribute e f pos) (tFldC C ta f) := by
  refine ⟨fun pins s σ H Q I h => ?_⟩
  refine attr_of hb (thn (he.run pins s σ H _ I h) fun u s1 ⟨x, H1, I1, rx, a, dx, fs, v, ex, ea, l, q⟩ => ?_)
  subst ex
  obtain rfl : u = Value.ref a := rx
  exact getattr_ok I1 ea c n l fun u' s2 I2 ru => ⟨v, H1, I2, ru, q⟩
/-- o.f = e: the heap behind it is told by what stands at o, and elsewhere -/
def sFldC (C : Addr) (ta tv : TE) (f : Str) : TS := fun D σ H => tv σ H fun y H1 => ta σ H1 fun x H2 => ∃ a dx fs fs', x = .ref a ∧ H2 a = some (.ins C dx fs) ∧ fs.length < 1000 ∧ putF f y fs = fs' ∧
  ∀ H3 : Hp, H3 a = some (.ins C dx fs') → (∀ b, b ≠ a → H3 b = H2 b) → D.nx σ H3
theorem ps_fldC {X : Cx} {o value : Expr} {f : Str} {pos pos' : Pos} {ta tv : TE} {C : Addr} (c : Cls X.K C) (n : NoAttr X.K C f) (ha : PE X o ta) (hv : PE X value tv) (hs : swapsWith value (some (.Attribute o f pos')) pos.line X.env = pure false) : PS X (.Assign [.Attribute o f pos'] value pos) (sFldC C ta tv f) := by
  refine ⟨fun pins s σ H D I h => ?_⟩
  refine plainObj_wpAny_Assign_Attribute (thn (hv.run pins s σ H _ I h) fun u s1 ⟨y, H1, I1, ry, q⟩ => thn (ha.run pins s1 σ H1 _ I1 q) fun ov s2 ⟨x, H2, I2, rx, a, dx, fs, fs', ex, ea, l, ep, q2⟩ => ?_) hs
  subst ex
  obtain rfl : ov = Value.ref a := rx
  exact setattr_ok I2 ea c n l ry fun s3 I3 => ⟨σ, _, I3, q2 _ (by rw [ep]; exact upd_same) fun b hb => upd_ne hb⟩
end
theorem lk_ne {k k' : Str} {v : V} {r : List (Str × V)} (h : (k == k') = false) : List.lookup k ((k', v) :: r) = List.lookup k r := by rw [List.lookup_cons, h]
theorem pf_nil {f : Str} {v : V} : putF f v [] = [(f, v)] := rfl
theorem pf_eq {f : Str} {v x : V} {r : List (Str × V)} : putF f v ((f, x) :: r) = (f, v) :: r := by
  show (if f = f then _ else _) = _
  rw [if_pos rfl]
theorem pf_ne {f g : Str} {v x : V} {r r' : List (Str × V)} (h : g ≠ f) (e : putF f v r = r') : putF f v ((g, x) :: r) = (g, x) :: r' := by
  show (if g = f then _ else _) = _
  rw [if_neg h, e]
theorem upd_facts {H H2 : Hp} {a : Addr} {o : HO} (h : upd H a o = H2) : H2 a = some o ∧ ∀ b, b ≠ a → H2 b = H b := by
  subst h
  exact ⟨upd_same, fun b hb => upd_ne hb⟩
theorem nn_of {H H' : Hp} (h : ∀ b u, H b = some u → H' b ≠ none) : ∀ b, H' b = none → H b = none := fun b e => by
  cases x : H b with
  | none => rfl
  | some u => exact absurd e (h b u x)
theorem ln_nil {k : Str} : List.lookup k ([] : List (Str × V)) = none := rfl
theorem same_iff {H H' : Hp} : Same H H' ↔ ∀ b, H b ≠ none → H' b = H b :=
  ⟨fun s b h => by
    cases e : H b with
    | none => exact absurd e h
    | some u => exact s b u e, fun s b u e => (s b (by rw [e]; exact fun z => by cases z)).trans e⟩
/-! ### regions -/
abbrev Span := Int × Int
abbrev Band := Int × Int × List Span
def spanD (s : Span) : PyData := .tuple [.int s.1, .int s.2]
def spansD (ss : List Span) : PyData := .tuple (ss.map spanD)
def bandD (b : Band) : PyData := .tuple [.int b.1, .int b.2.1, spansD b.2.2]
def regD (R : List Band) : PyData := .list (R.map bandD)
def hasSq : List Band → Int → Int → Bool
  | [], _, _ => false
  | b :: r, x, y => if b.1 ≤ y ∧ y < b.2.1 then b.2.2.any (fun s => decide (s.1 ≤ x ∧ x < s.2)) else hasSq r x y
def rectReg (x y w h : Int) : List Band := if w ≤ 0 ∨ h ≤ 0 then [] else [(y, y + h, [(x, x + w)])]
theorem dp_span {K : PySem.W.Frag} {H : Hp} {v : V} {s : Span} (h : Dp K H v (spanD s)) : ∃ a, v = .ref a ∧ SqT K H a [.int s.1, .int s.2] := by
  obtain ⟨a, xs, e, q, r⟩ := dp_tuple h
  cases r with | cons r1 r => cases r with | cons r2 r => cases r; cases r1; cases r2; exact ⟨a, e, q⟩
theorem dp_band {K : PySem.W.Frag} {H : Hp} {v : V} {b : Band} (h : Dp K H v (bandD b)) : ∃ a p ss, v = .ref a ∧ SqT K H a [.int b.1, .int b.2.1, .ref p] ∧ SqT K H p ss ∧ DpAll K H ss (b.2.2.map spanD) := by
  obtain ⟨a, xs, e, q, r⟩ := dp_tuple h
  cases r with | cons r1 r => cases r with | cons r2 r => cases r with | cons r3 r =>
    cases r; cases r1; cases r2
    obtain ⟨p, ss, rfl, q2, r4⟩ := dp_tuple r3
    exact ⟨a, p, ss, e, q, q2, r4⟩
theorem mk_span {K : PySem.W.Frag} {H : Hp} {a : Addr} {s : Span} (h : SqT K H a [.int s.1, .int s.2]) : Dp K H (.ref a) (spanD s) := .tup h (.cons (.int _) (.cons (.int _) .nil))
theorem mk_band {K : PySem.W.Frag} {H : Hp} {a p : Addr} {ss : List V} {b : Band} (h : SqT K H a [.int b.1, .int b.2.1, .ref p]) (q : SqT K H p ss) (r : DpAll K H ss (b.2.2.map spanD)) : Dp K H (.ref a) (bandD b) :=
  .tup h (.cons (.int _) (.cons (.int _) (.cons (.tup q r) .nil)))
theorem sh_span (s : Span) : Sh 1 (spanD s) := sh_tuple fun d hd => by
  simp only [List.mem_cons, List.not_mem_nil, or_false] at hd
  rcases hd with rfl | rfl <;> exact sh_int _
theorem sh_spans (ss : List Span) : Sh 2 (spansD ss) := sh_tuple fun d hd => by
  obtain ⟨s, _, rfl⟩ := List.mem_map.mp hd
  exact sh_span s
theorem sh_band (b : Band) : Sh 3 (bandD b) := sh_tuple fun d hd => by
  simp only [List.mem_cons, List.not_mem_nil, or_false] at hd
  rcases hd with rfl | rfl | rfl
  · exact (sh_int _).mono (by decide)
  · exact (sh_int _).mono (by decide)
  · exact (sh_spans _).mono (by decide)
theorem sh_reg (R : List Band) : Sh 4 (regD R) := sh_list fun d hd => by
  obtain ⟨s, _, rfl⟩ := List.mem_map.mp hd
  exact sh_band s
def sp_rectangle_region (K : PySem.W.Frag) : Sp := fun vs H Q _ => ∃ (x y wd ht : Int) (U : Hp), vs = [.int x, .int y, .int wd, .int ht] ∧ Same U H ∧
  ∀ v U' H', Ext U H U' H' → Dp K U' v (regD (rectReg x y wd ht)) → Q v H'
theorem sc_rectangle_region : FnScope ["x", "y", "width", "height"] ["x", "y", "width", "height"] (defScope s_rectangle_region) := ⟨rfl, rfl, rfl, by decide +kernel, rfl, by decide +kernel, by decide +kernel⟩
theorem ok_rectangle_region (T : Txt K mg A) : FnOk P w K mg base CX0 1 A.frectangle_region A.drectangle_region ["x", "y", "width", "height"] (sp_rectangle_region K) := by
  refine T.Frectangle_region.ok sc_rectangle_region (fun vs H Q E h => ?_) (fun cdv Ar outer s H vs Q E hr h => ?_)
  · obtain ⟨x, y, wd, ht, U, rfl, _⟩ := h
    rfl
  · obtain ⟨x, y, wd, ht, U, rfl, hU, q⟩ := h
    refine ⟨_, (pss_cons (ps_if (PW.pt (pw_or (pt_cmpR op_le (pv 2) pe_int (nomark _)) (pw_or1 (pt_cmpR op_le (pv 3) pe_int (nomark _)))))
      (pss_one (ps_ret (pe_lst pa_nil)))
      pss_nil)
      (pss_one (ps_ret (pe_lst (pa_cons (pe_tup (pa_cons (pv 1) (pa_cons (pe_op op_add (pv 1) (pv 3)) (pa_cons (pe_tup (pa_cons (pe_tup (pa_cons (pv 0) (pa_cons (pe_op op_add (pv 0) (pv 2)) pa_nil))) pa_nil)) pa_nil)))) pa_nil))))), ?_⟩
    have empty : (wd ≤ 0 ∨ ht ≤ 0) → ∀ p, H p = none → Q (.ref p) (upd H p (.lst [])) := fun c p hp => by
      refine q _ _ _ (Ext.new hU hp) ?_
      unfold rectReg; rw [if_pos c]
      exact .lst (SqL.of upd_same) .nil
    refine ⟨_, rfl, _, _, rfl, rfl, _, rfl, iteP (fun h => ?_) (fun h => ?_)⟩
    · exact if_t rfl ⟨by decide, empty (Or.inl h)⟩
    · refine ⟨_, rfl, _, _, rfl, rfl, _, rfl, iteP (fun h2 => ?_) (fun h2 => ?_)⟩
      · exact ⟨by decide, empty (Or.inr h2)⟩
      · refine ⟨_, rfl, _, rfl, _, rfl, _, _, rfl, rfl, _, rfl, _, rfl, _, rfl, _, _, rfl, rfl, len_line (by show 2 ≤ 100000; decide), fun p1 n1 => ?_⟩
        refine ⟨len_line (by show 1 ≤ 100000; decide), fun p2 n2 => ⟨len_line (by show 3 ≤ 100000; decide), fun p3 n3 => ⟨len_line (by show 1 ≤ 100000; decide), fun p4 n4 => ?_⟩⟩⟩
        have x1 := Ext.new (o := .tup [.int x, .int (x + wd)]) hU n1
        have x2 := x1.trans (Ext.new (o := .tup [.ref p1]) x1.vh n2)
        have x3 := x2.trans (Ext.new (o := .tup [.int y, .int (y + ht), .ref p2]) x2.vh n3)
        have x4 := x3.trans (Ext.new (o := .lst [.ref p3]) x3.vh n4)
        refine q _ _ _ x4 ?_
        unfold rectReg; rw [if_neg (by omega)]
        have s2 := same_upd (o := .tup [.ref p1]) (none_of_same x1.vh n2)
        have s3 := same_upd (o := .tup [.int y, .int (y + ht), .ref p2]) (none_of_same x2.vh n3)
        have s4 := same_upd (o := .lst [.ref p3]) (none_of_same x3.vh n4)
        refine .lst (SqL.of upd_same) (.cons (.to (mk_band (b := (y, y + ht, [(x, x + wd)])) (ss := [.ref p1]) (SqT.of upd_same) (s3.sqt (SqT.of upd_same)) (.cons ?_ .nil)) s4) .nil)
        exact (mk_span (s := (x, x + wd)) (SqT.of upd_same)).to (s2.trans s3)
theorem hasSq_drop {R : List Band} {i : Nat} {b : Band} {x y : Int} (h : R[i]? = some b) : hasSq (R.drop i) x y = if b.1 ≤ y ∧ y < b.2.1 then b.2.2.any (fun s => decide (s.1 ≤ x ∧ x < s.2)) else hasSq (R.drop (i + 1)) x y := by
  obtain ⟨hi, e⟩ := List.getElem?_eq_some_iff.mp h
  rw [List.drop_eq_getElem_cons hi, e]
  rfl
theorem bls {f : Nat → Option Bool} {n : Nat} {g : Nat → Option PyData} (h : ∀ i, i < n → g i = (f i).map PyData.bool) : fm g n = (fm f n).map PyData.bool := by
  induction n with
  | zero => rfl
  | succ n ih =>
    rw [fm_succ, fm_succ, ih fun i hi => h i (Nat.lt_succ_of_lt hi), h n (Nat.lt_succ_self n), List.map_append]
    cases f n <;> rfl
theorem dp_bools {K : PySem.W.Frag} {H : Hp} {a : Addr} {bs : List Bool} (h : Dp K H (.ref a) (.list (bs.map PyData.bool))) : SqL K H a (bs.map V.bl) := by
  obtain ⟨a', xs, e, q, r⟩ := dp_list h
  cases e
  have : xs = bs.map V.bl := by
    clear h q
    induction bs generalizing xs with
    | nil => cases r; rfl
    | cons b bs ih =>
      cases r with
      | cons r1 r2 => cases r1; rw [ih _ r2]; rfl
  rw [← this]; exact q
def rectsOf (b : Band) : List PyData := b.2.2.map fun s => .tuple [.int s.1, .int b.1, .int (s.2 - s.1), .int (b.2.1 - b.1)]
def rectsD (R : List Band) : PyData := .list (R.flatMap rectsOf)
def sp_rectangles (K : PySem.W.Frag) : Sp := fun vs H Q _ => ∃ (r : V) (R : List Band) (U : Hp), vs = [r] ∧ Same U H ∧ Dp K H r (regD R) ∧ (R.flatMap rectsOf).length < 90000 ∧ R.length < 90000 ∧ 
  ∀ v U' H', Ext U H U' H' → Dp K U' v (rectsD R) → Q v H'
theorem sc_rectangles : FnScope ["region", "top", "bottom", "spans", "begin", "end"] ["region"] (defScope s_rectangles) := ⟨rfl, rfl, rfl, by decide +kernel, rfl, by decide +kernel, by decide +kernel⟩
theorem fl_take {α : Type} {β : Type} (f : α → List β) : ∀ (xs : List α) (i : Nat) (x : α), xs[i]? = some x → (xs.take (i + 1)).flatMap f = (xs.take i).flatMap f ++ f x := by
  intro xs i x h
  obtain ⟨hi, e⟩ := List.getElem?_eq_some_iff.mp h
  rw [List.take_succ_eq_append_getElem hi, List.flatMap_append, e]
  show _ ++ (f x ++ []) = _
  rw [List.append_nil]
theorem fl_le {α : Type} {β : Type} (f : α → List β) (xs : List α) (i : Nat) : ((xs.take i).flatMap f).length ≤ (xs.flatMap f).length := by
  have : xs.flatMap f = (xs.take i).flatMap f ++ (xs.drop i).flatMap f := by rw [← List.flatMap_append, List.take_append_drop]
  rw [this, List.length_append]; omega
theorem ok_rectangles (T : Txt K mg A) : FnOk P w K mg base CX0 1 A.frectangles A.drectangles ["region"] (sp_rectangles K) := by
  refine T.Frectangles.ok sc_rectangles (fun vs H Q E h => ?_) (fun cdv Ar outer s H vs Q E hr h => ?_)
  · obtain ⟨r, R, U, rfl, _⟩ := h
    rfl
  · obtain ⟨r, R, U, rfl, hU, hR, hl, hl2, q⟩ := h
    obtain ⟨a, xs, rfl, hS, hD⟩ := dp_list hR
    refine ⟨_, (pss_one (ps_ret (pe_lc2 (own := [("top", 1), ("bottom", 2), ("spans", 3), ("begin", 4), ("end", 5)]) (g := (gTup K 3 (gCons (gName 1) (gCons (gName 2) (gCons (gName 3) gNil))))) (tt := tYes) (tt1 := tYes) (g1 := (gTup K 2 (gCons (gName 4) (gCons (gName 5) gNil)))) (vs1 := [4, 5]) (wi1 := iTup K (tVar 3)) rfl sc_rectangles.nd (pi_list (pv 0)) (blkOk_by (own := [("top", 1), ("bottom", 2), ("spans", 3), ("begin", 4), ("end", 5)]) (N := ["region", "top", "bottom", "spans", "begin", "end"]) (sc := defScope s_rectangles) (by decide +kernel)) (by decide) (fun _ _ _ _ _ => by exact (pg_tup rfl (pgs_cons (pg_name (i := 1) sc_rectangles.nd rfl (Or.inl rfl)) (pgs_cons (pg_name (i := 2) sc_rectangles.nd rfl (Or.inl rfl)) (pgs_cons (pg_name (i := 3) sc_rectangles.nd rfl (Or.inl rfl)) pgs_nil))))) (fun _ _ _ _ _ => pts_nil) (fun _ _ _ _ _ => by exact (pi_tup (pv 3))) (fun _ _ _ _ _ => by exact (pg_tup rfl (pgs_cons (pg_name (i := 4) sc_rectangles.nd rfl (Or.inl rfl)) (pgs_cons (pg_name (i := 5) sc_rectangles.nd rfl (Or.inl rfl)) pgs_nil)))) (fun _ _ _ _ _ => pts_nil) (fun _ _ _ _ _ => by exact (pe_tup (pa_cons (pv 4) (pa_cons (pv 1) (pa_cons (pe_op op_sub (pv 5) (pv 4)) (pa_cons (pe_op op_sub (pv 2) (pv 1)) pa_nil))))))))), ?_⟩
    refine ⟨_, rfl, a, rfl, ⟨_, hS⟩, fun D hDn => ?_⟩
    have ex : xs.length = R.length := by rw [dpall_len hD, List.length_map]
    refine lc2_outer (K := K) (walk_list (K := K) (a := a) (xs := xs)) (fun i => (R.take i).flatMap rectsOf) [some (.ref a), none, none, none, none, none] rfl hU hDn rfl (fun H' s => s.seq hS) (fun i x H H' y => y.1) ?_ ?_
    · rintro i v H1 hi inv ⟨_, hv⟩ Nx hN
      have s1 : Same H H1 := by obtain ⟨_, _, x, _⟩ := inv.ex; exact x.hh
      obtain ⟨d, hd, dv⟩ := dpall_get hD hv
      rw [List.getElem?_map] at hd
      obtain ⟨b, hb, rfl⟩ := Option.map_eq_some_iff.mp hd
      obtain ⟨ab, p, ss, rfl, qa, qp, qs⟩ := dp_band dv
      refine ⟨ab, _, rfl, s1.sqt qa, rfl, _, _, rfl, _, _, rfl, _, _, rfl, rfl, rfl, _, rfl, p, rfl, ⟨_, s1.sqt qp⟩, ?_⟩
      have hss : ss.length = (rectsOf b).length := by
        unfold rectsOf; rw [dpall_len qs, List.length_map, List.length_map]
      have e1 := fl_take rectsOf R i b hb
      have l1 := fl_le rectsOf R (i + 1)
      rw [e1, List.length_append] at l1
      refine lc2_inner (K := K) (walk_tup (K := K) (a := p) (xs := ss)) (fun j => (rectsOf b)[j]?) [some (.ref a), some (.int b.1), some (.int b.2.1), some (.ref p), none, none] rfl hDn inv (by omega) (fun H' s => s.sqt qp) (fun i x H H' y => y.1) ?_ ?_
      · rintro j v U2 H2 hj xx ⟨_, hv⟩ Qy Qn hy _
        obtain ⟨d, hd, dv⟩ := dpall_get qs hv
        rw [List.getElem?_map] at hd
        obtain ⟨sp, hsp, rfl⟩ := Option.map_eq_some_iff.mp hd
        obtain ⟨as, rfl, qsp⟩ := dp_span dv
        refine ⟨as, _, rfl, xx.hh.sqt qsp, rfl, _, _, rfl, _, _, rfl, rfl, rfl, _, rfl, _, rfl, _, rfl, _, rfl, _, _, rfl, rfl, _, rfl, _, rfl, _, _, rfl, rfl, len_line (by show 4 ≤ 100000; decide), fun pt nt => ?_⟩
        refine hy (.tuple [.int sp.1, .int b.1, .int (sp.2 - sp.1), .int (b.2.1 - b.1)]) _ _ _ ?_ (Ext.new xx.vh nt) (.tup (SqT.of upd_same) (.cons (.int _) (.cons (.int _) (.cons (.int _) (.cons (.int _) .nil)))))
        unfold rectsOf; rw [List.getElem?_map, hsp]; rfl
      · intro H2 inv2
        refine hN H2 ?_
        rw [hss] at inv2
        have e3 : fm (fun j => (rectsOf b)[j]?) (rectsOf b).length = rectsOf b := by
          have := fm_map (fun d : PyData => d) (rectsOf b)
          simpa using this
        rw [e3] at inv2
        rw [e1]; exact inv2
    · intro U1 H1 _ xx _ _ dl
      rw [ex, List.take_length] at dl
      exact q _ _ _ xx dl
/-! ### rows, pieces, merging: the mathematics -/
def inS (ss : List Span) (x : Int) : Bool := ss.any fun s => decide (s.1 ≤ x ∧ x < s.2)
def segs (es : List Int) : List (Int × Int) := es.zip es.tail
theorem segs_cons (a b : Int) (t : List Int) : segs (a :: b :: t) = (a, b) :: segs (b :: t) := rfl
theorem seg_mem : ∀ {es : List Int}, es.Pairwise (· < ·) → ∀ {b e : Int}, (b, e) ∈ segs es → b < e ∧ (∀ z ∈ es, z ≤ b ∨ e ≤ z) ∧ b ∈ es ∧ e ∈ es
  | [], _, _, _, h => by cases h
  | [a], _, _, _, h => by cases h
  | a :: c :: t, hp, b, e, h => by
    rw [segs_cons] at h
    have hp2 := List.pairwise_cons.mp hp
    rcases List.mem_cons.mp h with h | h
    · cases h
      have h1 := hp2.1 c List.mem_cons_self
      refine ⟨h1, fun z hz => ?_, List.mem_cons_self, List.mem_cons_of_mem _ List.mem_cons_self⟩
      rcases List.mem_cons.mp hz with rfl | hz
      · exact .inl (Int.le_refl _)
      · rcases List.mem_cons.mp hz with rfl | hz
        · exact .inr (Int.le_refl _)
        · exact .inr (Int.le_of_lt ((List.pairwise_cons.mp hp2.2).1 z hz))
    · obtain ⟨h1, h2, h3, h4⟩ := seg_mem hp2.2 h
      refine ⟨h1, fun z hz => ?_, List.mem_cons_of_mem _ h3, List.mem_cons_of_mem _ h4⟩
      rcases List.mem_cons.mp hz with rfl | hz
      · exact .inl (Int.le_of_lt (hp2.1 b h3))
      · exact h2 z hz
theorem seg_ex : ∀ {es : List Int} {l h x : Int}, l ∈ es → h ∈ es → l ≤ x → x < h → es.Pairwise (· < ·) → ∃ s ∈ segs es, s.1 ≤ x ∧ x < s.2
  | [], _, _, _, h1, _, _, _, _ => by cases h1
  | [a], l, h, x, h1, h2, h3, h4, _ => by
    cases List.mem_singleton.mp h1; cases List.mem_singleton.mp h2; omega
  | a :: c :: t, l, h, x, h1, h2, h3, h4, hp => by
    rw [segs_cons]
    have hp2 := List.pairwise_cons.mp hp
    have hac := hp2.1 c List.mem_cons_self
    by_cases hx : x < c
    · refine ⟨(a, c), List.mem_cons_self, ?_, hx⟩
      rcases List.mem_cons.mp h1 with rfl | h1
      · exact h3
      · have : c ≤ l := by
          rcases List.mem_cons.mp h1 with rfl | h1
          · exact Int.le_refl _
          · exact Int.le_of_lt ((List.pairwise_cons.mp hp2.2).1 l h1)
        show a ≤ x; omega
    · have hh : h ∈ c :: t := by
        rcases List.mem_cons.mp h2 with rfl | h2
        · omega
        · exact h2
      obtain ⟨s, hs, g⟩ := seg_ex (l := c) (h := h) (x := x) List.mem_cons_self hh (by omega) h4 hp2.2
      exact ⟨s, List.mem_cons_of_mem _ hs, g⟩
section
variable {r : Type} (lo hi : r → Int)
def rowAt (rows : List r) (p : Int) : Option r := rows.find? fun q => decide (lo q ≤ p ∧ p < hi q)
/-- rows one behind the other -/
structure Rows (rows : List r) : Prop where
  pos : ∀ q ∈ rows, lo q < hi q
  ord : rows.Pairwise fun p q => hi p ≤ lo q
variable {lo hi}
theorem rowAt_seg {rows : List r} {es : List Int} (hp : es.Pairwise (· < ·)) (he : ∀ q ∈ rows, lo q ∈ es ∧ hi q ∈ es) {b e x : Int} (hs : (b, e) ∈ segs es) (h1 : b ≤ x) (h2 : x < e) : rowAt lo hi rows x = rowAt lo hi rows b := by
  obtain ⟨_, g, _, _⟩ := seg_mem hp hs
  unfold rowAt
  induction rows with
  | nil => rfl
  | cons q t ih =>
    have e1 : decide (lo q ≤ x ∧ x < hi q) = decide (lo q ≤ b ∧ b < hi q) := by
      have g1 := g _ (he q List.mem_cons_self).1
      have g2 := g _ (he q List.mem_cons_self).2
      congr 1
      refine propext ⟨fun h => ?_, fun h => ?_⟩ <;> omega
    rw [List.find?_cons, List.find?_cons, e1, ih fun q hq => he q (List.mem_cons_of_mem _ hq)]
theorem rowAt_off {rows : List r} {es : List Int} (hp : es.Pairwise (· < ·)) (he : ∀ q ∈ rows, lo q ∈ es ∧ hi q ∈ es) {x : Int} (h : ∀ s ∈ segs es, ¬ (s.1 ≤ x ∧ x < s.2)) : rowAt lo hi rows x = none := by
  unfold rowAt
  refine List.find?_eq_none.mpr fun q hq => ?_
  intro c
  have c := of_decide_eq_true c
  obtain ⟨s, hs, g⟩ := seg_ex (he q hq).1 (he q hq).2 c.1 c.2 hp
  exact h s hs g
/-- the first row at or behind a place -/
theorem rowAt_idx {rows : List r} (R : Rows lo hi rows) {p : Int} {i : Nat} (h1 : ∀ j q, j < i → rows[j]? = some q → hi q ≤ p) (h2 : ∀ q, rows[i]? = some q → p < hi q) :
    rowAt lo hi rows p = (rows[i]?).filter fun q => decide (lo q ≤ p) := by
  unfold rowAt
  induction rows generalizing i with
  | nil => rfl
  | cons q t ih =>
    have R2 : Rows lo hi t := ⟨fun q hq => R.pos q (List.mem_cons_of_mem _ hq), (List.pairwise_cons.mp R.ord).2⟩
    match i with
    | 0 =>
      have g := h2 q rfl
      show List.find? _ _ = (some q).filter _
      rw [List.find?_cons, Option.filter_some]
      by_cases c : lo q ≤ p
      · rw [decide_eq_true ⟨c, g⟩, decide_eq_true c]; rfl
      · rw [decide_eq_false fun z => c z.1, decide_eq_false c]
        refine List.find?_eq_none.mpr fun q2 hq2 => ?_
        have o := (List.pairwise_cons.mp R.ord).1 q2 hq2
        have p1 := R.pos q List.mem_cons_self
        rw [decide_eq_true_eq]; omega
    | i + 1 =>
      have g := h1 0 q (Nat.succ_pos _) rfl
      rw [List.find?_cons, decide_eq_false fun z => by omega]
      exact ih R2 (fun j q hj hq => h1 (j + 1) q (Nat.succ_lt_succ hj) hq) fun q hq => h2 q hq
end
/-! merging -/
section
variable {e : Type} (cond : e → e → Bool) (join : e → e → e)
def mstep (acc : List e) (q : e) : List e := match acc.getLast? with
  | some p => if cond p q = true then acc.dropLast ++ [join p q] else acc ++ [q]
  | none => [q]
def merge (qs : List e) : List e := qs.foldl (mstep cond join) []
theorem merge_snoc (qs : List e) (q : e) : merge cond join (qs ++ [q]) = mstep cond join (merge cond join qs) q := by
  unfold merge; rw [List.foldl_append]; rfl
theorem mstep_last (acc : List e) (p q : e) : mstep cond join (acc ++ [p]) q = if cond p q = true then acc ++ [join p q] else acc ++ [p] ++ [q] := by
  unfold mstep
  rw [List.getLast?_append, List.getLast?_singleton]
  show (if cond p q = true then (acc ++ [p]).dropLast ++ [join p q] else _) = _
  rw [List.dropLast_concat]
theorem last_cases (acc : List e) : acc = [] ∨ ∃ a p, acc = a ++ [p] := by
  rcases List.eq_nil_or_concat acc with h | ⟨a, p, h⟩
  · exact .inl h
  · exact .inr ⟨a, p, by simpa using h⟩
theorem merge_any (cov : e → Bool) (val : e → Prop) (hj : ∀ p q, val p → val q → cond p q = true → val (join p q) ∧ cov (join p q) = (cov p || cov q)) :
    ∀ (n : Nat) (qs : List e), qs.length = n → (∀ q ∈ qs, val q) → (∀ q ∈ merge cond join qs, val q) ∧ (merge cond join qs).any cov = qs.any cov := by
  intro n
  induction n with
  | zero => intro qs h _; cases List.eq_nil_of_length_eq_zero h; exact ⟨fun q hq => (by cases hq), rfl⟩
  | succ n ih =>
    intro qs h hv
    rcases last_cases qs with rfl | ⟨a, q, rfl⟩
    · cases h
    have ha : ∀ z ∈ a, val z := fun z hz => hv z (List.mem_append_left _ hz)
    have hq : val q := hv q (List.mem_append_right _ List.mem_cons_self)
    obtain ⟨i1, i2⟩ := ih a (by rw [List.length_append] at h; simpa using h) ha
    rw [merge_snoc, List.any_append, ← i2]
    generalize merge cond join a = m at i1 i2
    rcases last_cases m with rfl | ⟨b, p, rfl⟩
    · exact ⟨fun z hz => by cases List.mem_singleton.mp hz; exact hq, rfl⟩
    rw [mstep_last]
    have hp : val p := i1 p (List.mem_append_right _ List.mem_cons_self)
    by_cases c : cond p q = true
    · rw [if_pos c]
      obtain ⟨v, cv⟩ := hj p q hp hq c
      refine ⟨fun z hz => ?_, ?_⟩
      · rcases List.mem_append.mp hz with hz | hz
        · exact i1 z (List.mem_append_left _ hz)
        · cases List.mem_singleton.mp hz; exact v
      · simp only [List.any_append, List.any_cons, List.any_nil, Bool.or_false, cv, Bool.or_assoc]
    · rw [if_neg c]
      refine ⟨fun z hz => ?_, ?_⟩
      · rcases List.mem_append.mp hz with hz | hz
        · exact i1 z hz
        · cases List.mem_singleton.mp hz; exact hq
      · rw [List.any_append]
theorem merge_rows {lo hi : e → Int} (hl : ∀ p q, lo (join p q) = lo p) (hh : ∀ p q, hi (join p q) = hi q) :
    ∀ (n : Nat) (qs : List e), qs.length = n → Rows lo hi qs → Rows lo hi (merge cond join qs) ∧ (∀ z ∈ merge cond join qs, ∃ p ∈ qs, ∃ q ∈ qs, lo z = lo p ∧ hi z = hi q) := by
  intro n
  induction n with
  | zero => intro qs h _; cases List.eq_nil_of_length_eq_zero h; exact ⟨⟨fun q hq => (by cases hq), List.Pairwise.nil⟩, fun z hz => (by cases hz)⟩
  | succ n ih =>
    intro qs h R
    rcases last_cases qs with rfl | ⟨a, q, rfl⟩
    · cases h
    have pw := List.pairwise_append.mp R.ord
    have Ra : Rows lo hi a := ⟨fun z hz => R.pos z (List.mem_append_left _ hz), pw.1⟩
    have hq := R.pos q (List.mem_append_right _ List.mem_cons_self)
    have hb : ∀ z ∈ a, hi z ≤ lo q := fun z hz => pw.2.2 z hz q List.mem_cons_self
    obtain ⟨i1, i2⟩ := ih a (by rw [List.length_append] at h; simpa using h) Ra
    rw [merge_snoc]
    have i2' : ∀ z ∈ merge cond join a, ∃ p ∈ a ++ [q], ∃ q' ∈ a ++ [q], lo z = lo p ∧ hi z = hi q' := fun z hz => by
      obtain ⟨p, hp, q', hq', e⟩ := i2 z hz
      exact ⟨p, List.mem_append_left _ hp, q', List.mem_append_left _ hq', e⟩
    have i3 : ∀ z ∈ merge cond join a, hi z ≤ lo q := fun z hz => by
      obtain ⟨p, hp, q', hq', e⟩ := i2 z hz
      rw [e.2]; exact hb q' hq'
    have mq : q ∈ a ++ [q] := List.mem_append_right _ List.mem_cons_self
    generalize merge cond join a = m at i1 i2' i3
    rcases last_cases m with rfl | ⟨b, p, rfl⟩
    · exact ⟨⟨fun z hz => by cases List.mem_singleton.mp hz; exact hq, List.pairwise_singleton _ _⟩, fun z hz => by cases List.mem_singleton.mp hz; exact ⟨q, mq, q, mq, rfl, rfl⟩⟩
    rw [mstep_last]
    have pw2 := List.pairwise_append.mp i1.ord
    have hp := i1.pos p (List.mem_append_right _ List.mem_cons_self)
    have hpq := i3 p (List.mem_append_right _ List.mem_cons_self)
    by_cases c : cond p q = true
    · rw [if_pos c]
      refine ⟨⟨fun z hz => ?_, List.pairwise_append.mpr ⟨pw2.1, List.pairwise_singleton _ _, fun z hz y hy => ?_⟩⟩, fun z hz => ?_⟩
      · rcases List.mem_append.mp hz with hz | hz
        · exact i1.pos z (List.mem_append_left _ hz)
        · cases List.mem_singleton.mp hz; rw [hl, hh]; omega
      · cases List.mem_singleton.mp hy; rw [hl]; exact pw2.2.2 z hz p List.mem_cons_self
      · rcases List.mem_append.mp hz with hz | hz
        · exact i2' z (List.mem_append_left _ hz)
        · cases List.mem_singleton.mp hz
          obtain ⟨p1, hp1, _, _, e1, _⟩ := i2' p (List.mem_append_right _ List.mem_cons_self)
          exact ⟨p1, hp1, q, mq, by rw [hl]; exact e1, by rw [hh]⟩
    · rw [if_neg c]
      refine ⟨⟨fun z hz => ?_, List.pairwise_append.mpr ⟨i1.ord, List.pairwise_singleton _ _, fun z hz y hy => ?_⟩⟩, fun z hz => ?_⟩
      · rcases List.mem_append.mp hz with hz | hz
        · exact i1.pos z hz
        · cases List.mem_singleton.mp hz; exact hq
      · cases List.mem_singleton.mp hy; exact i3 z hz
      · rcases List.mem_append.mp hz with hz | hz
        · exact i2' z hz
        · cases List.mem_singleton.mp hz; exact ⟨q, mq, q, mq, rfl, rfl⟩
end
/-! ### set(xs) of a list of ints, and sorted of it (our own rule; its road is that of the library's rule for tuples) -/
section
open PySem.Spec PyProof.Rows
variable {P : Program} {w : World} {A : Around} {E : Value → Shared → Prop} {s : Shared}
abbrev newS (w : World) : Obj := ⟨.type "set", none, .set #[] 0 (.fresh 0 0 (!w.params.followText "set-order")), #[]⟩
/-- what is known behind the filling -/
def Filled (w : World) (s : Shared) (ns : List Int) (s2 : Shared) : Prop := ∃ (h' : Heap) (tk c : Nat), s2 = { s with heap := h', toks := tk } ∧ SetR w h' s.heap.objs.size (fun j => decide (j ∈ ns)) c ∧ c ≤ ns.length ∧ ∀ b o, s.heap.get? b = some o → h'.get? b = some o
theorem fill_at {items : Array Value} {ns : List Int} (hit : PyProof.Rows.IntsAre items.toList ns) : ∀ (i : Nat) (v : Value), items[i]? = some v → ∃ k t, ns[i]? = some k ∧ v = .int k t := by
  intro i v hv
  have hl : i < items.size := (Array.getElem?_eq_some_iff.mp hv).1
  have e1 : items.toList.length = ns.length := PyProof.Rows.IntsAre.length hit
  have hi : i < ns.length := by rw [← e1, Array.length_toList]; exact hl
  obtain ⟨t, e⟩ := PyProof.Rows.IntsAre.int_at hit i v (by rw [Array.getElem?_toList, hv])
  exact ⟨_, t, List.getElem?_eq_getElem hi, by rw [e, List.getD_eq_getElem?_getD, List.getElem?_eq_getElem hi]; rfl⟩
theorem call_set_listI {l : Addr} {items : Array Value} (ns : List Int) {Q : Value → Shared → Prop} (hh : A.handled = none) (hl : s.heap.IsList l items) (hit : PyProof.Rows.IntsAre items.toList ns) (hb : ns.length + 1 < scanBound)
    (h : ∀ s2, Filled w s ns s2 → Q (.ref s.heap.objs.size) s2) : wpAny (model P w) A (call (.type "set") [.ref l]) Q E s := by
  have n0 : items.size = ns.length := by rw [← Array.length_toList]; exact PyProof.Rows.IntsAre.length hit
  obtain ⟨_, _, _⟩ := F.called_set.mro
  refine wpAny_call (codeAny_of_tree (show wpAny _ _ (callAny (.type "set") _) _ _ _ from wpAny_pure ⟨Code.quiet_builtin _ (by decide +kernel), codeAny_builtin F.entry_type_call (by
    rw [Around.under_plain (weight_type_call_type "set" [.ref l] []) rfl]
    have c1 := F.called_set.made
    have c2 := F.called_set.sub
    have c3 := F.called_set.notType
    have c4 := F.called_set.canCreate
    have c5 := F.typeCall_set_1 (.ref l)
    repeat (any_goals (first | assumption | wp_step))
    refine codeAny_mono (code_set_led1 (E := E) (.ref l) (Q₁ := fun obj s1 => obj = .ref s.heap.objs.size ∧ s1 = { s with heap := s.heap.push (newS w) }) ⟨rfl, rfl⟩) ?_
    intro f s1 hr
    match f, hr with
    | .error e, hr => exact hr
    | .ok (.ret obj), hr =>
      obtain ⟨rfl, rfl⟩ := hr
      have g0 : (s.heap.push (newS w)).get? s.heap.objs.size = some (newS w) := Heap.get?_push_size _ rfl
      have ty : Shared.TypeIs { s with heap := s.heap.push (newS w) } (.ref s.heap.objs.size) "set" := ⟨_, g0, rfl⟩
      have d1 := F.called_set.init.lookup
      have d2 := F.called_set.init.bind (.ref s.heap.objs.size)
      repeat (any_goals (first | assumption | wp_step))
      refine codeAny_mono (codeAny_call_builtin (R := wants (fun r s2 => r = .none ∧ Filled w s ns s2) E) F.called_set.init.plain F.entry_set_init (check_set_init_1 ty ?_)) ?_
      · obtain ⟨⟨c, od, dt, sl⟩, ho, hc, nn, hd⟩ := hl
        cases (show c = _ from hc)
        cases (show dt = _ from hd)
        have ll : l < s.heap.objs.size := Heap.lt_size ho
        have o1 : (s.heap.push (newS w)).get? l = some ⟨.type "list", od, .seq items nn, sl⟩ := Heap.get?_push_of_some _ ho
        have l1 : (s.heap.push (newS w)).IsList l items := ⟨_, o1, rfl, nn, rfl⟩
        have b1 := F.sub_list_set
        have b2 := F.sub_list_frozenset
        have b3 : (Value.type "list" == Value.type "dict") = false := by decide
        unfold Builtin.«set.__init__» noKeywords Builtin.Frozenset.updateFrom
        generalize hPI : pyIter = PI
        wp_walk
        subst hPI
        refine wpAny_pyIter_list l1 (wpAny_bind (wpAny_runValue ?_))
        have sz : (s.heap.push (newS w)).objs.size = s.heap.objs.size + 1 := Heap.size_push ..
        have hh3 : A.in1.in1.in1.handled = none := by simp [hh]
        have fr : s.heap.objs.size ∉ [(s.heap.push (newS w)).objs.size, l] := fun z => by
          rw [sz] at z
          rcases List.mem_cons.mp z with e | e
          · exact absurd e (Nat.ne_of_lt (Nat.lt_succ_self _))
          · exact absurd (List.mem_singleton.mp e) (Nat.ne_of_gt ll)
        have old : ∀ b o, s.heap.get? b = some o → ∀ u : Obj, ((s.heap.push (newS w)).push u).get? b = some o := fun b o e u => Heap.get?_push_of_some _ (Heap.get?_push_of_some _ e)
        refine set_update_ints ((Walks.list hh3 _ l (by rw [sz]; exact Nat.ne_of_lt (Nat.lt_succ_of_lt ll)) items).toS) s.heap.objs.size fr ns n0 hb (fill_at hit) items.size 0 _ rfl (Nat.zero_le _) ⟨⟨_, Heap.get?_push_size _ rfl, rfl, rfl⟩, l1.push _⟩ ⟨0, Nat.le_refl 0, setR_new_at (Heap.get?_push_of_some _ g0)⟩ ?_
        rintro ⟨h', g2, d', tk', os'⟩ c' hm hc' hS'
        cases (show g2 = s.gens from hm.gens)
        cases (show d' = s.drawn from hm.drawn)
        cases (show os' = s.os from hm.os)
        refine wpAny_pure (wpAny_pure ⟨rfl, h', tk', c', rfl, hS', by omega, fun b o e => hm.heap b o ?_ (old b o e _)⟩)
        have hb0 : b < s.heap.objs.size := Heap.lt_size e
        intro z
        rw [sz] at z
        rcases List.mem_cons.mp z with e | e
        · exact absurd e (Nat.ne_of_lt hb0)
        · exact absurd (List.mem_singleton.mp e) (Nat.ne_of_lt (Nat.lt_succ_of_lt hb0))
      · intro f2 s2 hr2
        match f2, hr2 with
        | .error e, hr2 => exact hr2
        | .ok (.ret r), hr2 =>
          obtain ⟨rfl, hf⟩ := hr2
          repeat (any_goals (first | assumption | wp_step))
          exact h _ hf
        | .ok .next, hr2 => exact hr2.elim
        | .ok .brk, hr2 => exact hr2.elim
        | .ok .cont, hr2 => exact hr2.elim
    | .ok .next, hr => exact hr.elim
    | .ok .brk, hr => exact hr.elim
    | .ok .cont, hr => exact hr.elim)⟩))
end
section
open PySem.Spec PyProof.Rows
variable {X : Cx}
theorem nodup_few : ∀ (d m : List Int), d.Nodup → (∀ k, k ∈ d → k ∈ m) → d.length ≤ m.length
  | [], m, _, _ => Nat.zero_le _
  | a :: t, m, hd, hm => by
    have h := List.nodup_cons.mp hd
    have ha := hm a List.mem_cons_self
    have ih := nodup_few t (m.erase a) h.2 fun k hk => (List.mem_erase_of_ne (fun (e : k = a) => h.1 (by rw [← e]; exact hk))).mpr (hm k (List.mem_cons_of_mem _ hk))
    have hl := List.length_erase_of_mem ha
    have hp : 0 < m.length := List.length_pos_of_mem ha
    rw [List.length_cons]
    omega
/-- a set has no more than any list that has all of it -/
theorem setR_few {w : World} {h : Heap} {a : Addr} {ns : List Int} {c : Nat} (R : SetR w h a (fun j => decide (j ∈ ns)) c) : ∀ es : List Int, (∀ k, k ∈ ns → k ∈ es) → c ≤ es.length := by
  obtain ⟨o, es, ep, t, _, _, _, _, hn, hm, _, _, hc, _⟩ := R
  intro xs hx
  have := nodup_few (List.map keyOf es.toList) xs hn fun k hk => hx k (of_decide_eq_true ((hm k).mpr hk))
  rw [List.length_map, Array.length_toList, hc] at this
  exact this
/-- set(xs), xs a list of ints -/
def rSetI (K : PySem.W.Frag) (w : World) : List V → Hp → VK → Prop := fun xs H Q => ∃ (l : Addr) (ns : List Int), xs = [V.ref l] ∧ SqL K H l (ns.map V.int) ∧ ns.length + 1 < scanBound ∧
  ∀ a c, H a = none → c ≤ ns.length → (∀ es : List Int, (∀ k, k ∈ ns → k ∈ es) → c ≤ es.length) → Q (.ref a) (upd H a (SetO w a (fun j => decide (j ∈ ns)) c))
theorem cr_setI (hc : X.calm = true) : CallR X (.type "set") (rSetI X.K X.w) := by
  intro pins s σ H xs us Q I r h
  obtain ⟨l, ns, rfl, hl, hb, q⟩ := h
  rw [Vals.ref1 r]
  obtain ⟨its, rv, pl, hz⟩ := I.list hl
  refine call_set_listI (P := X.prog) (w := X.w) ns (I.ok.hd hc) pl.isList (by simpa using ints_of_vals rv) hb fun s2 ⟨h', tk, c, e, R, hcn, k⟩ => ?_
  subst e
  exact ⟨.ref s.heap.objs.size, _, I.laid (t' := tk) k (Nat.le_refl _) (setO_new R), rfl, q _ c (I.hok.fresh (Nat.le_refl _)) hcn (setR_few R)⟩
end
/-! ### sorted(a set of ints), any number of members (our own rule: the library's sort of ints of any length, with what it tells of a set's walk) -/
section
open PySem PySem.Spec PyProof.Rows
theorem sort_big {P : Program} {w : World} {A : Around} {E : Value → Shared → Prop} {s : Shared} {a : Addr} {S : Int → Bool} {n : Nat} {Q : Value → Shared → Prop} (R : SetR w s.heap a S n) (free : A.handled = none)
    (k : ∀ s2 p c (xs : Array Value) (zs : List Int), (∀ b u, s.heap.get? b = some u → s2.heap.get? b = some u) → s2.gens = s.gens ∧ s2.os = s.os → s.heap.objs.size ≤ p → s2.heap.get? p = some (seqObj "list" xs c) →
      IntsAre xs.toList zs → zs.Pairwise (· < ·) → (∀ j, j ∈ zs ↔ S j = true) → zs.length = n → n < 4096 → Q (.ref p) s2) :
    wpAny (model P w) A (call (.builtin "sorted") [.ref a]) Q E s := by
  obtain ⟨o, es, ep, t, e0, ex, ed, good, once, mem, few, fit, cnt, ris, led⟩ := R
  have few' : es.size < 4096 := few
  refine Calls.call_function_entry kind_sorted plain_sorted entry_sorted (args_sorted1 _) (show wpAny _ _ (checkCount "sorted" 1 1 _ >>= _) _ _ _ from wpAny_bind (wpAny_pure ?_))
  refine wpAny_bind (collect_set (A := A.in1) free ⟨o, e0, ex.1, ed⟩ fit few ris led ?_)
  intro s2 vs old big gs os perm
  have len : vs.length = es.size := by simpa using perm.length_eq
  have are : IntsAre vs (vs.map Builtin.Re.reRawOf) := ints_of vs (by
    intro v hv
    have hv' := perm.mem_iff.mp hv
    rw [List.mem_map] at hv'
    obtain ⟨e, he, rfl⟩ := hv'
    obtain ⟨j, tk, h1, _⟩ := good e he
    exact ⟨j, tk, h1⟩)
  have perm2 : (vs.map Builtin.Re.reRawOf).Perm (es.toList.map keyOf) := by
    have e := perm.map Builtin.Re.reRawOf
    rw [List.map_map] at e
    exact e
  have fits : vs.length ≤ sizeLine := Nat.le_trans (m := 4096) (by omega) (len_line (n := 4096) (by decide))
  refine wpAny_bind (wpAny_newList ?_ fits)
  have new := Heap.get?_push_size s2.heap (o := seqObj "list" vs.toArray 0) rfl
  have done : ∀ (out : Array Value) (zs : List Int), IntsAre out.toList zs → zs.Perm (vs.map Builtin.Re.reRawOf) → zs.Pairwise (· ≤ ·) → Q (.ref s2.heap.objs.size) { s2 with heap := sortedHeap (s2.heap.push (seqObj "list" vs.toArray 0)) s2.heap.objs.size vs out } := by
    intro out zs a1 a2 a3
    obtain ⟨c, hc⟩ := sortedHeap_at (vs := vs) (out := out) new
    have all := a2.trans perm2
    refine k _ _ c out zs (fun b u e => ?_) ⟨gs, os⟩ big hc a1 (lt_of_le_nodup zs a3 (all.nodup_iff.mpr once)) (fun j => by rw [mem j]; exact all.mem_iff) ?_ (by omega)
    · have lt := Heap.lt_size (old b u e)
      have keep : (s2.heap.push (seqObj "list" vs.toArray 0)).get? b = some u := Heap.get?_push_of_some _ (old b u e)
      exact (sortedHeap_old (Nat.ne_of_lt lt) (Heap.lt_size keep)).trans keep
    · rw [all.length_eq, List.length_map, Array.length_toList, cnt]
  exact wpAny_bind (wpAny_holding (wpAny_call_entry slot_list_sort ⟨_, new, rfl⟩ entry_list_sort (SrtO.list_sort_ord SrtO.swo_int new fits (fun two => SrtO.ints_sortable are two) fun out b1 b2 => ⟨_, rfl, wpAny_pure ⟨_, rfl, done out.toArray _ (SrtO.ints_out are b1 b2).1 (SrtO.ints_out are b1 b2).2.1 (SrtO.ints_out are b1 b2).2.2⟩⟩) (args_list_sort _)))
variable {X : Cx}
def rSortB (w : World) : List V → Hp → VK → Prop := fun vs H Q => ∃ (a : Addr) (S : Int → Bool) (n : Nat), vs = [V.ref a] ∧ H a = some (SetO w a S n) ∧
  ∀ (zs : List Int) (p : Addr), zs.Pairwise (· < ·) → (∀ j : Int, j ∈ zs ↔ S j = true) → zs.length = n → H p = none → Q (.ref p) (upd H p (.lst (zs.map V.int)))
theorem cr_sortB (hc : X.calm = true) : CallR X (.builtin "sorted") (rSortB X.w) := by
  intro pins s σ H vs us Q I r h
  obtain ⟨a, S, n, rfl, ha, q⟩ := h
  rw [Vals.ref1 r]
  refine sort_big (setO_get I ha) (I.ok.hd hc) fun s2 p c xs zs old ⟨gs, os⟩ big at_ are up mem cnt few => ?_
  have free : H p = none := I.hok.fresh big
  have room : (zs.map V.int).length ≤ sizeLine := Nat.le_trans (m := 4096) (by rw [List.length_map]; omega) (len_line (n := 4096) (by decide))
  have J := I.call (ch := []) (h' := s2.heap) (g' := s2.gens) (d' := s2.drawn) (t' := s2.toks) (Un.laid old big free) (I.hok.laid old big (o := .lst (zs.map V.int)) ⟨room, xs.toList, c, vals_of_ints are, at_⟩) (by rw [gs]; exact I.bare) (fun _ z => nomatch z)
  refine ⟨.ref p, upd H p (.lst (zs.map V.int)), ?_, rfl, q zs p up mem cnt free⟩
  have e : s2 = { s with heap := s2.heap, gens := s2.gens, drawn := s2.drawn, toks := s2.toks } := by
    obtain ⟨⟩ := s2
    obtain ⟨⟩ := s
    obtain rfl := os
    rfl
  exact e ▸ J
end
/-! ### rows in lists and in tuples: the defs -/
def RowOf (K : PySem.W.Frag) {r : Type} (lo hi : r → Int) (D : r → PyData) : Prop := ∀ (H : Hp) (v : V) (q : r), Dp K H v (D q) → ∃ p rest, v = .ref p ∧ SqT K H p (.int (lo q) :: .int (hi q) :: rest)
def oD {r : Type} (D : r → PyData) : Option r → PyData
  | none => .none
  | some q => D q
theorem sc__first_ending_behind : FnScope ["rows", "at", "place"] ["rows", "at", "place"] (defScope s__first_ending_behind) := ⟨rfl, rfl, rfl, by decide +kernel, rfl, by decide +kernel, by decide +kernel⟩
theorem sc__row_from : FnScope ["rows", "at", "place"] ["rows", "at", "place"] (defScope s__row_from) := ⟨rfl, rfl, rfl, by decide +kernel, rfl, by decide +kernel, by decide +kernel⟩
theorem sc__pieces : FnScope ["a", "b", "edges", "row", "pieces", "at_a", "at_b", "begin", "end"] ["a", "b"] (defScope s__pieces) := ⟨rfl, rfl, rfl, by decide +kernel, rfl, by decide +kernel, by decide +kernel⟩
def pieceD {r : Type} (lo hi : r → Int) (D : r → PyData) (Aa Bb : List r) (s : Int × Int) : PyData := .tuple [.int s.1, .int s.2, oD D (rowAt lo hi Aa s.1), oD D (rowAt lo hi Bb s.1)]
def edgeL {r : Type} (lo hi : r → Int) (Aa Bb : List r) : List Int := ((Aa.map lo ++ Aa.map hi) ++ Bb.map lo) ++ Bb.map hi
theorem few_e0 {r : Type} {lo hi : r → Int} {Aa Bb : List r} (h : Aa.length + Bb.length < 30) : ∃ e0 : List Int, (∀ k, k ∈ edgeL lo hi Aa Bb → k ∈ e0) ∧ e0.length < 400 :=
  ⟨edgeL lo hi Aa Bb, fun _ h => h, by unfold edgeL; simp only [List.length_append, List.length_map]; omega⟩
theorem row_at {K : PySem.W.Frag} {r : Type} {lo hi : r → Int} {D : r → PyData} (hD : RowOf K lo hi D) {U : Hp} {xs : List V} {rows : List r} (hX : DpAll K U xs (rows.map D)) (i : Nat) (v : V) (h : xs[i]? = some v) : ∃ pr rest q, rows[i]? = some q ∧ v = .ref pr ∧ SqT K U pr (.int (lo q) :: .int (hi q) :: rest) := by
  obtain ⟨d, hd, dv⟩ := dpall_get hX h
  rw [List.getElem?_map] at hd
  obtain ⟨q, hq, rfl⟩ := Option.map_eq_some_iff.mp hd
  obtain ⟨pr, rest, e, h2⟩ := hD _ _ _ dv
  exact ⟨pr, rest, q, hq, e, h2⟩
theorem cut_tail (xs : List V) : cutV xs (some 1) none = xs.tail := by
  show (xs.drop (min 1 xs.length)).take (xs.length - min 1 xs.length) = xs.tail
  cases xs with
  | nil => rfl
  | cons a t =>
    have e : min 1 (a :: t).length = 1 := by simp [Nat.min_def]
    rw [e]
    show t.take ((a :: t).length - 1) = t
    simp
theorem segs_len (es : List Int) : (segs es).length = min es.length es.tail.length := List.length_zip
theorem segs_at {es : List Int} {i : Nat} {x y : V} (h1 : (es.map V.int)[i]? = some x) (h2 : (es.map V.int).tail[i]? = some y) : ∃ b e, x = .int b ∧ y = .int e ∧ (segs es)[i]? = some (b, e) := by
  rw [List.getElem?_map] at h1
  rw [← List.map_tail, List.getElem?_map] at h2
  obtain ⟨b, hb, rfl⟩ := Option.map_eq_some_iff.mp h1
  obtain ⟨e, he, rfl⟩ := Option.map_eq_some_iff.mp h2
  exact ⟨b, e, rfl, rfl, List.getElem?_zip_eq_some.mpr ⟨hb, he⟩⟩
theorem segs_asc : ∀ {es : List Int}, es.Pairwise (· < ·) → ∀ {i j : Nat} {s t : Int × Int}, i ≤ j → (segs es)[i]? = some s → (segs es)[j]? = some t → s.1 ≤ t.1
  | [], _, i, j, s, t, _, h, _ => by cases h
  | [a], _, i, j, s, t, _, h, _ => by cases h
  | a :: c :: r, hp, i, j, s, t, hij, h1, h2 => by
    rw [segs_cons] at h1 h2
    have hp2 := List.pairwise_cons.mp hp
    match i, j, h1, h2 with
    | 0, 0, h1, h2 => cases h1; cases h2; exact Int.le_refl _
    | 0, j + 1, h1, h2 =>
      cases h1
      have m := seg_mem hp2.2 (b := t.1) (e := t.2) (List.mem_of_getElem? h2)
      exact Int.le_of_lt (hp2.1 _ m.2.2.1)
    | i + 1, 0, h1, h2 => omega
    | i + 1, j + 1, h1, h2 => exact segs_asc hp2.2 (i := i) (j := j) (by omega) h1 h2
def sp__first_ending_behind_L (K : PySem.W.Frag) : Sp := fun vs H Q _ => ∃ (r : Type) (lo hi : r → Int) (D : r → PyData) (rows : List r) (p : Addr) (xs : List V) (i : Nat) (pl : Int), vs = [.ref p, .int (i : Int), .int pl] ∧ RowOf K lo hi D ∧ SqL K H p xs ∧ DpAll K H xs (rows.map D) ∧ i ≤ rows.length ∧ (∀ (j : Nat) (q : r), j < i → rows[j]? = some q → hi q ≤ pl) ∧
  ∀ i' : Nat, i' ≤ rows.length → (∀ (j : Nat) (q : r), j < i' → rows[j]? = some q → hi q ≤ pl) → (∀ q, rows[i']? = some q → pl < hi q) → Q (.int (i' : Int)) H
theorem ok__first_ending_behind_L (T : Txt K mg A) : FnOk P w K mg base CX0 1 A.f_first_ending_behind A.d_first_ending_behind ["rows", "at", "place"] (sp__first_ending_behind_L K) := by
  refine T.F_first_ending_behind.ok sc__first_ending_behind (fun vs H Q E h => ?_) (fun cdv Ar outer s H vs Q E hr h => ?_)
  · obtain ⟨_, _, _, _, _, _, _, _, _, rfl, _⟩ := h
    rfl
  · obtain ⟨r, lo, hi, D, rows, p, xs, i, pl, rfl, hD, hS, hX, hi0, hb, q⟩ := h
    refine ⟨_, (pss_cons (ps_while PassesOwn.never (PW.pt (pw_and (pt_cmpR op_lt (pv 1) (pe_callB call_len_seq (by rfl) T.len PySem.boot_len (pa_cons (pv 0) pa_nil)) (nomark _)) (pw_and1 (pt_cmpR op_le (pe_ix (r := rIxT K) ix_tup (pe_ix (r := rIxL K) ix_list (pv 0) (pv 1) (fun _ _ => rfl)) pe_int (fun _ _ => rfl)) (pv 2) (nomark _)))))
      (pss_one (ps_aug (i := 1) sc__first_ending_behind.nd rfl (Or.inl rfl) pe_int ip_add)))
      (pss_one (ps_ret (pv 1)))), ?_⟩
    have hx : xs.length = rows.length := by rw [dpall_len hX, List.length_map]
    refine ⟨fun m σ H' => H' = H ∧ ∃ k : Nat, σ = [some (.ref p), some (.int (k : Int)), some (.int pl)] ∧ k ≤ rows.length ∧ m = rows.length - k ∧ ∀ (j : Nat) (q : r), j < k → rows[j]? = some q → hi q ≤ pl, ⟨_, rfl, i, rfl, hi0, rfl, hb⟩, ?_⟩
    rintro m σ H' ⟨rfl, k, rfl, hk, rfl, hkb⟩
    have fin : (∀ q, rows[k]? = some q → pl < hi q) → tRet (tVar 1) { nx := fun x H' => Q V.non H', rt := Q } [some (.ref p), some (.int (k : Int)), some (.int pl)] H' := fun h => ⟨_, rfl, q k hk hkb h⟩
    refine ⟨_, rfl, _, rfl, p, _, rfl, .inl hS, _, _, rfl, rfl, _, rfl, iteP (fun h => ?_) (fun h => ?_)⟩
    · have hk2 : k < rows.length := by rw [← hx]; omega
      have hr' := List.getElem?_eq_getElem hk2
      obtain ⟨v, hv, dv⟩ := dpall_get' hX (i := k) (d := D rows[k]) (by rw [List.getElem?_map, hr']; rfl)
      obtain ⟨pr, rest, rfl, hpr⟩ := hD _ _ _ dv
      generalize rows[k] = row at hr' dv hpr
      refine ⟨_, rfl, _, rfl, p, _, _, _, rfl, rfl, hS, atI_nat hv, pr, _, _, _, rfl, rfl, hpr, atI_nat (j := 1) rfl, _, rfl, _, _, rfl, rfl, _, rfl, iteP (fun h2 => ?_) (fun h2 => ?_)⟩
      · refine ⟨fun σ' H2 => H2 = H' ∧ σ' = [some (.ref p), some (.int ((k + 1 : Nat) : Int)), some (.int pl)], ?_, ?_⟩
        · rintro σ' H2 ⟨rfl, rfl⟩
          refine ⟨rows.length - (k + 1), by omega, rfl, k + 1, rfl, hk2, rfl, fun j q hj hq => ?_⟩
          by_cases e : j = k
          · subst e; rw [hr'] at hq; cases hq; exact h2
          · exact hkb j q (by omega) hq
        · exact ⟨_, rfl, _, _, rfl, rfl, rfl, by rw [Int.natCast_add]; rfl⟩
      · exact fin fun q hq => by rw [hr'] at hq; cases hq; omega
    · exact fin fun q hq => by
        have := (List.getElem?_eq_some_iff.mp hq).1
        rw [hx] at h; omega
def sp__row_from_L (K : PySem.W.Frag) : Sp := fun vs H Q _ => ∃ (r : Type) (lo hi : r → Int) (D : r → PyData) (rows : List r) (p : Addr) (xs : List V) (i : Nat) (pl : Int) (U : Hp), vs = [.ref p, .int (i : Int), .int pl] ∧ RowOf K lo hi D ∧ Same U H ∧ SqL K U p xs ∧ DpAll K U xs (rows.map D) ∧
  ∀ v, Dp K U v (oD D ((rows[i]?).filter fun q => decide (lo q ≤ pl))) → Q v H
theorem ok__row_from_L (T : Txt K mg A) : FnOk P w K mg base CX0 1 A.f_row_from A.d_row_from ["rows", "at", "place"] (sp__row_from_L K) := by
  refine T.F_row_from.ok sc__row_from (fun vs H Q E h => ?_) (fun cdv Ar outer s H vs Q E hr h => ?_)
  · obtain ⟨_, _, _, _, _, _, _, _, _, _, rfl, _⟩ := h
    rfl
  · obtain ⟨r, lo, hi, D, rows, p, xs, i, pl, U, rfl, hD, sU, hS0, hX, q⟩ := h
    have hS := sU.seq hS0
    refine ⟨_, (pss_one (ps_ret (pe_ifExp (PW.pt (pw_and (pt_cmpR op_lt (pv 1) (pe_callB call_len_seq (by rfl) T.len PySem.boot_len (pa_cons (pv 0) pa_nil)) (nomark _)) (pw_and1 (pt_cmpR op_le (pe_ix (r := rIxT K) ix_tup (pe_ix (r := rIxL K) ix_list (pv 0) (pv 1) (fun _ _ => rfl)) pe_int (fun _ _ => rfl)) (pv 2) (nomark _))))) (pe_ix (r := rIxL K) ix_list (pv 0) (pv 1) (fun _ _ => rfl)) pe_non))), ?_⟩
    have hx : xs.length = rows.length := by rw [dpall_len hX, List.length_map]
    refine ⟨_, rfl, _, rfl, p, _, rfl, .inl hS, _, _, rfl, rfl, _, rfl, iteP (fun h => ?_) (fun h => ?_)⟩
    · have hk2 : i < rows.length := by rw [← hx]; omega
      have hr' := List.getElem?_eq_getElem hk2
      obtain ⟨v, hv, dv⟩ := dpall_get' hX (i := i) (d := D rows[i]) (by rw [List.getElem?_map, hr']; rfl)
      obtain ⟨pr, rest, rfl, hpr0⟩ := hD _ _ _ dv
      have hpr := sU.sqt hpr0
      generalize rows[i] = row at hr' dv hpr0 hpr
      rw [hr'] at q
      refine ⟨_, rfl, _, rfl, p, _, _, _, rfl, rfl, hS, atI_nat hv, pr, _, _, _, rfl, rfl, hpr, atI_nat (j := 0) rfl, _, rfl, _, _, rfl, rfl, _, rfl, iteP (fun h2 => ?_) (fun h2 => ?_)⟩
      · refine ⟨_, rfl, _, rfl, p, _, _, _, rfl, rfl, hS, atI_nat hv, q _ ?_⟩
        rw [Option.filter_some, decide_eq_true h2]; exact dv
      · refine q _ ?_
        rw [Option.filter_some, decide_eq_false h2]; exact .non
    · refine q _ ?_
      rw [List.getElem?_eq_none (by rw [hx] at h; omega)]
      exact .non
def sp__pieces_L (K : PySem.W.Frag) : Sp := fun vs H Q _ => ∃ (r : Type) (lo hi : r → Int) (D : r → PyData) (Aa Bb : List r) (pa pb : Addr) (xa xb : List V) (U : Hp), vs = [.ref pa, .ref pb] ∧ RowOf K lo hi D ∧ Same U H ∧ SqL K U pa xa ∧ DpAll K U xa (Aa.map D) ∧ SqL K U pb xb ∧ DpAll K U xb (Bb.map D) ∧
  Rows lo hi Aa ∧ Rows lo hi Bb ∧ Aa.length + Bb.length < 900 ∧ (∃ e0 : List Int, (∀ k, k ∈ edgeL lo hi Aa Bb → k ∈ e0) ∧ e0.length < 400) ∧
  ∀ v U' H' es, Ext U H U' H' → es.length < 400 → es.Pairwise (· < ·) → (∀ k, k ∈ es ↔ k ∈ edgeL lo hi Aa Bb) → Dp K U' v (.list ((segs es).map (pieceD lo hi D Aa Bb))) → Q v H'
theorem ok__pieces_L (T : Txt K mg A) : FnOk P w K mg base CX0 2 A.f_pieces A.d_pieces ["a", "b"] (sp__pieces_L K) := by
  refine T.F_pieces.ok sc__pieces (fun vs H Q E h => ?_) (fun cdv Ar outer s H vs Q E hr h => ?_)
  · obtain ⟨_, _, _, _, _, _, _, _, _, _, _, rfl, _⟩ := h
    rfl
  · obtain ⟨r, lo, hi, D, Aa, Bb, pa, pb, xa, xb, U, rfl, hD, sU, hSa, hXa, hSb, hXb, Ra, Rb, hln, ⟨e0, he0, hl0⟩, q⟩ := h
    refine ⟨_, (C8.pss_cut (ps_set (i := 2) sc__pieces.nd rfl (Or.inl rfl) (pe_callB (cr_sortB rfl) (by rfl) T.sorted (by decide +kernel) (pa_cons (pe_callTy (cr_setI rfl) (by rfl) T.set (by decide +kernel) (pa_cons (pe_op op_cat (pe_op op_cat (pe_op op_cat (pe_lc (own := [("row", 3)]) (g := (gName 3)) (tt := tYes) rfl sc__pieces.nd (pi_list (pv 0)) (blkOk_by (own := [("row", 3)]) (N := ["a", "b", "edges", "row", "pieces", "at_a", "at_b", "begin", "end"]) (sc := defScope s__pieces) (by decide +kernel)) (fun _ _ _ _ _ => (pg_name (i := 3) sc__pieces.nd rfl (Or.inl rfl))) (fun _ _ _ _ _ => pts_nil) (fun _ _ _ _ _ => by exact (pe_ix (r := rIxT K) ix_tup (pv 3) pe_int (fun _ _ => rfl)))) (pe_lc (own := [("row", 3)]) (g := (gName 3)) (tt := tYes) rfl sc__pieces.nd (pi_list (pv 0)) (blkOk_by (own := [("row", 3)]) (N := ["a", "b", "edges", "row", "pieces", "at_a", "at_b", "begin", "end"]) (sc := defScope s__pieces) (by decide +kernel)) (fun _ _ _ _ _ => (pg_name (i := 3) sc__pieces.nd rfl (Or.inl rfl))) (fun _ _ _ _ _ => pts_nil) (fun _ _ _ _ _ => by exact (pe_ix (r := rIxT K) ix_tup (pv 3) pe_int (fun _ _ => rfl))))) (pe_lc (own := [("row", 3)]) (g := (gName 3)) (tt := tYes) rfl sc__pieces.nd (pi_list (pv 1)) (blkOk_by (own := [("row", 3)]) (N := ["a", "b", "edges", "row", "pieces", "at_a", "at_b", "begin", "end"]) (sc := defScope s__pieces) (by decide +kernel)) (fun _ _ _ _ _ => (pg_name (i := 3) sc__pieces.nd rfl (Or.inl rfl))) (fun _ _ _ _ _ => pts_nil) (fun _ _ _ _ _ => by exact (pe_ix (r := rIxT K) ix_tup (pv 3) pe_int (fun _ _ => rfl))))) (pe_lc (own := [("row", 3)]) (g := (gName 3)) (tt := tYes) rfl sc__pieces.nd (pi_list (pv 1)) (blkOk_by (own := [("row", 3)]) (N := ["a", "b", "edges", "row", "pieces", "at_a", "at_b", "begin", "end"]) (sc := defScope s__pieces) (by decide +kernel)) (fun _ _ _ _ _ => (pg_name (i := 3) sc__pieces.nd rfl (Or.inl rfl))) (fun _ _ _ _ _ => pts_nil) (fun _ _ _ _ _ => by exact (pe_ix (r := rIxT K) ix_tup (pv 3) pe_int (fun _ _ => rfl))))) pa_nil)) pa_nil)))
      (pss_cons (ps_set (i := 4) sc__pieces.nd rfl (Or.inl rfl) (pe_lst pa_nil))
      (pss_cons (ps_set (i := 5) sc__pieces.nd rfl (Or.inl rfl) pe_int)
      (pss_cons (ps_set (i := 6) sc__pieces.nd rfl (Or.inl rfl) pe_int)
      (pss_cons (ps_for PassesOwn.never rfl (pi_zip (by rfl) T.zip (pa_cons (pv 2) (pa_cons (pe_slice (r := rSlL K) sl_list (pv 2) (po_some pe_int) po_none) pa_nil))) (pg_tup rfl (pgs_cons (pg_name (i := 7) sc__pieces.nd rfl (Or.inl rfl)) (pgs_cons (pg_name (i := 8) sc__pieces.nd rfl (Or.inl rfl)) pgs_nil)))
      (pss_cons (ps_set (i := 5) sc__pieces.nd rfl (Or.inl rfl) (pe_call (ok__first_ending_behind_L T) (hr.mono (by decide)) rfl T.g_first_ending_behind T.k_first_ending_behind T.b_first_ending_behind .nil pass0 (pa_cons (pv 0) (pa_cons (pv 5) (pa_cons (pv 7) pa_nil)))))
      (pss_cons (ps_set (i := 6) sc__pieces.nd rfl (Or.inl rfl) (pe_call (ok__first_ending_behind_L T) (hr.mono (by decide)) rfl T.g_first_ending_behind T.k_first_ending_behind T.b_first_ending_behind .nil pass0 (pa_cons (pv 1) (pa_cons (pv 6) (pa_cons (pv 7) pa_nil)))))
      (pss_one (ps_expr (pe_bm PySem.F.plainAttrs_list PySem.F.slot_list_append PySem.F.type_list_append mt_append (pv 4) (pa_cons (pe_tup (pa_cons (pv 7) (pa_cons (pv 8) (pa_cons (pe_call (ok__row_from_L T) (hr.mono (by decide)) rfl T.g_row_from T.k_row_from T.b_row_from .nil pass0 (pa_cons (pv 0) (pa_cons (pv 5) (pa_cons (pv 7) pa_nil)))) (pa_cons (pe_call (ok__row_from_L T) (hr.mono (by decide)) rfl T.g_row_from T.k_row_from T.b_row_from .nil pass0 (pa_cons (pv 1) (pa_cons (pv 6) (pa_cons (pv 7) pa_nil)))) pa_nil))))) pa_nil)))))))
      (pss_one (ps_ret (pv 4)))))))), ?_⟩
    have lxa : xa.length = Aa.length := by rw [dpall_len hXa, List.length_map]
    have lxb : xb.length = Bb.length := by rw [dpall_len hXb, List.length_map]
    have atA : ∀ (i : Nat) (v : V), xa[i]? = some v → ∃ pr rest q, Aa[i]? = some q ∧ v = .ref pr ∧ SqT K U pr (.int (lo q) :: .int (hi q) :: rest) := row_at hD hXa
    have atB : ∀ (i : Nat) (v : V), xb[i]? = some v → ∃ pr rest q, Bb[i]? = some q ∧ v = .ref pr ∧ SqT K U pr (.int (lo q) :: .int (hi q) :: rest) := row_at hD hXb
    refine ⟨fun σ' H' => ∃ (pe : Addr) (es : List Int), σ' = [some (.ref pa), some (.ref pb), some (.ref pe), none, none, none, none, none, none] ∧ Same H H' ∧ H' pe = some (.lst (es.map V.int)) ∧ es.length < 400 ∧ es.Pairwise (· < ·) ∧ ∀ k, k ∈ es ↔ k ∈ edgeL lo hi Aa Bb, ?_, ?_⟩
    · refine ⟨_, rfl, pa, rfl, ⟨_, sU.seq hSa⟩, fun D1 hD1 => ?_⟩
      refine lc_dp (walk_list (K := K) (a := pa) (xs := xa)) (K := K) (V0 := H) (H0 := H) (fun i => (Aa[i]?).map fun q => PyData.int (lo q)) _ rfl (Same.refl _) hD1 (by omega) (fun H' s => s.seq (sU.seq hSa)) (fun i x H H' y => y.1) ?_ ?_
      · rintro j v U2 H2 hj xx ⟨_, hv⟩ Qy Qn hy _
        obtain ⟨pr, rest, qq, hq, rfl, hpr⟩ := atA j v hv
        exact ⟨rfl, _, rfl, pr, _, _, _, rfl, rfl, xx.hh.sqt (sU.sqt hpr), atI_nat (j := 0) rfl, hy _ _ _ _ (by rw [hq]; rfl) (Ext.refl xx.vh) (.int _)⟩
      rintro U1 H1 xs1 x1 d1 l1 _
      rw [lxa, fm_map] at l1
      have e1 : xs1 = (Aa.map lo).map V.int := dp_intsV (K := K) (H := U1) (by rw [List.map_map]; exact l1)
      subst e1
      have g1 := x1.vh _ _ d1
      have t1 := sU.trans x1.hh
      refine ⟨_, rfl, pa, rfl, ⟨_, t1.seq hSa⟩, fun D2 hD2 => ?_⟩
      refine lc_dp (walk_list (K := K) (a := pa) (xs := xa)) (K := K) (V0 := H1) (H0 := H1) (fun i => (Aa[i]?).map fun q => PyData.int (hi q)) _ rfl (Same.refl _) hD2 (by omega) (fun H' s => s.seq (t1.seq hSa)) (fun i x H H' y => y.1) ?_ ?_
      · rintro j v U2 H2 hj xx ⟨_, hv⟩ Qy Qn hy _
        obtain ⟨pr, rest, qq, hq, rfl, hpr⟩ := atA j v hv
        exact ⟨rfl, _, rfl, pr, _, _, _, rfl, rfl, xx.hh.sqt (t1.sqt hpr), atI_nat (j := 1) rfl, hy _ _ _ _ (by rw [hq]; rfl) (Ext.refl xx.vh) (.int _)⟩
      rintro U2 H2 xs2 x2 d2 l2 _
      rw [lxa, fm_map] at l2
      have e2 : xs2 = (Aa.map hi).map V.int := dp_intsV (K := K) (H := U2) (by rw [List.map_map]; exact l2)
      subst e2
      have g2 := x2.vh _ _ d2
      refine ⟨D1, D2, _, _, rfl, rfl, x2.hh _ _ g1, g2, len_line (by simp; omega), fun p3 hp3 => ?_⟩
      have g3 : (upd H2 p3 (.lst ((Aa.map lo).map V.int ++ (Aa.map hi).map V.int))) p3 = _ := upd_same
      have t3 := (t1.trans x2.hh).trans (same_upd (o := .lst ((Aa.map lo).map V.int ++ (Aa.map hi).map V.int)) hp3)
      have u3 := (x1.hh.trans x2.hh).trans (same_upd (o := .lst ((Aa.map lo).map V.int ++ (Aa.map hi).map V.int)) hp3)
      generalize upd H2 p3 (.lst ((Aa.map lo).map V.int ++ (Aa.map hi).map V.int)) = H3 at g3 t3 u3 ⊢
      refine ⟨_, rfl, pb, rfl, ⟨_, t3.seq hSb⟩, fun D4 hD4 => ?_⟩
      refine lc_dp (walk_list (K := K) (a := pb) (xs := xb)) (K := K) (V0 := H3) (H0 := H3) (fun i => (Bb[i]?).map fun q => PyData.int (lo q)) _ rfl (Same.refl _) hD4 (by omega) (fun H' s => s.seq (t3.seq hSb)) (fun i x H H' y => y.1) ?_ ?_
      · rintro j v U2 H2 hj xx ⟨_, hv⟩ Qy Qn hy _
        obtain ⟨pr, rest, qq, hq, rfl, hpr⟩ := atB j v hv
        exact ⟨rfl, _, rfl, pr, _, _, _, rfl, rfl, xx.hh.sqt (t3.sqt hpr), atI_nat (j := 0) rfl, hy _ _ _ _ (by rw [hq]; rfl) (Ext.refl xx.vh) (.int _)⟩
      rintro U4 H4 xs4 x4 d4 l4 _
      rw [lxb, fm_map] at l4
      have e4 : xs4 = (Bb.map lo).map V.int := dp_intsV (K := K) (H := U4) (by rw [List.map_map]; exact l4)
      subst e4
      have g4 := x4.vh _ _ d4
      refine ⟨p3, D4, _, _, rfl, rfl, x4.hh _ _ g3, g4, len_line (by simp; omega), fun p5 hp5 => ?_⟩
      have g5 : (upd H4 p5 (.lst (((Aa.map lo).map V.int ++ (Aa.map hi).map V.int) ++ (Bb.map lo).map V.int))) p5 = _ := upd_same
      have t5 := (t3.trans x4.hh).trans (same_upd (o := .lst (((Aa.map lo).map V.int ++ (Aa.map hi).map V.int) ++ (Bb.map lo).map V.int)) hp5)
      have u5 := (u3.trans x4.hh).trans (same_upd (o := .lst (((Aa.map lo).map V.int ++ (Aa.map hi).map V.int) ++ (Bb.map lo).map V.int)) hp5)
      generalize upd H4 p5 (.lst (((Aa.map lo).map V.int ++ (Aa.map hi).map V.int) ++ (Bb.map lo).map V.int)) = H5 at g5 t5 u5 ⊢
      refine ⟨_, rfl, pb, rfl, ⟨_, t5.seq hSb⟩, fun D6 hD6 => ?_⟩
      refine lc_dp (walk_list (K := K) (a := pb) (xs := xb)) (K := K) (V0 := H5) (H0 := H5) (fun i => (Bb[i]?).map fun q => PyData.int (hi q)) _ rfl (Same.refl _) hD6 (by omega) (fun H' s => s.seq (t5.seq hSb)) (fun i x H H' y => y.1) ?_ ?_
      · rintro j v U2 H2 hj xx ⟨_, hv⟩ Qy Qn hy _
        obtain ⟨pr, rest, qq, hq, rfl, hpr⟩ := atB j v hv
        exact ⟨rfl, _, rfl, pr, _, _, _, rfl, rfl, xx.hh.sqt (t5.sqt hpr), atI_nat (j := 1) rfl, hy _ _ _ _ (by rw [hq]; rfl) (Ext.refl xx.vh) (.int _)⟩
      rintro U6 H6 xs6 x6 d6 l6 _
      rw [lxb, fm_map] at l6
      have e6 : xs6 = (Bb.map hi).map V.int := dp_intsV (K := K) (H := U6) (by rw [List.map_map]; exact l6)
      subst e6
      have g6 := x6.vh _ _ d6
      refine ⟨p5, D6, _, _, rfl, rfl, x6.hh _ _ g5, g6, len_line (by simp; omega), fun p7 hp7 => ?_⟩
      have ee : (((Aa.map lo).map V.int ++ (Aa.map hi).map V.int) ++ (Bb.map lo).map V.int) ++ (Bb.map hi).map V.int = (edgeL lo hi Aa Bb).map V.int := by unfold edgeL; simp only [List.map_append]
      have el : (edgeL lo hi Aa Bb).length < 1800 := by unfold edgeL; simp only [List.length_append, List.length_map]; omega
      rw [ee]
      refine ⟨p7, edgeL lo hi Aa Bb, rfl, SqL.of upd_same, by unfold scanBound; omega, fun ps c hps hc hc2 => ?_⟩
      have hc3 := hc2 e0 he0
      refine ⟨ps, _, c, rfl, upd_same, fun es p8 hs hm hl hp8 => ?_⟩
      refine ⟨p8, es, rfl, ?_, upd_same, by omega, hs, fun k => by rw [hm k, decide_eq_true_eq]⟩
      exact (((u5.trans x6.hh).trans (same_upd hp7)).trans (same_upd hps)).trans (same_upd hp8)
    rintro σ' H1 ⟨pe, es, rfl, s1, he, hel, hep, hem⟩
    refine ⟨len_line (by show 0 ≤ 100000; decide), fun pp hpp => ?_⟩
    have sU1 := sU.trans s1
    have inv0 := LcInv.start (K := K) sU1 hpp
    have he2 := same_upd (o := .lst []) hpp _ _ he
    have s2 : Same H1 (upd H1 pp (.lst [])) := same_upd hpp
    generalize hH2 : upd H1 pp (.lst []) = H2 at inv0 he2 s2 ⊢
    refine ⟨_, rfl, _, rfl, _, rfl, pe, _, rfl, SqL.of he2, fun p6 hp6 => ?_⟩
    rw [cut_tail] at *
    have hsl : (segs es).length = min (es.map V.int).length (es.map V.int).tail.length := by rw [segs_len]; simp
    have he3 := same_upd (o := .lst (es.map V.int).tail) hp6 _ _ he2
    have h63 : (upd H2 p6 (.lst (es.map V.int).tail)) p6 = _ := upd_same
    have inv3 : LcInv K U H1 pp [] (upd H2 p6 (.lst (es.map V.int).tail)) := by
      obtain ⟨V1, xs, x, f1, f2, f3⟩ := inv0.ex
      have sn := same_upd (o := .lst (es.map V.int).tail) hp6
      exact ⟨V1, xs, ⟨x.vv, x.vh.trans sn, x.hh.trans sn, x.nw⟩, f1, sn _ _ f2, f3⟩
    have npp : H1 pp = none := hpp
    have npe : pe ≠ pp := fun z => by rw [z, npp] at he; cases he
    have np6 : p6 ≠ pp := (ne_of_none (by rw [← hH2]; exact upd_same : H2 pp = some (.lst [])) hp6).symm
    generalize upd H2 p6 (.lst (es.map V.int).tail) = H3 at he3 h63 inv3 ⊢
    have keep : ∀ H' acc, LcInv K U H1 pp acc H' → Same H1 H' := fun H' acc i => by obtain ⟨_, _, x, _⟩ := i.ex; exact x.hh
    refine ⟨pe, p6, _, _, rfl, SqL.of he3, SqL.of h63, for_it (walk_zip (K := K) (a := pe) (b := p6) (n := (segs es).length) hsl)
      (fun i σ H' => ∃ (ia ib : Nat) (v7 v8 : Option V), σ = [some (.ref pa), some (.ref pb), some (.ref pe), none, some (.ref pp), some (.int (ia : Int)), some (.int (ib : Int)), v7, v8] ∧ LcInv K U H1 pp (((segs es).take i).map (pieceD lo hi D Aa Bb)) H' ∧ H' pe = some (.lst (es.map V.int)) ∧ H' p6 = some (.lst (es.map V.int).tail) ∧
        ia ≤ Aa.length ∧ ib ≤ Bb.length ∧ (∀ (j : Nat) (q : r), j < ia → Aa[j]? = some q → ∀ (k : Nat) (t : Int × Int), i ≤ k → (segs es)[k]? = some t → hi q ≤ t.1) ∧ (∀ (j : Nat) (q : r), j < ib → Bb[j]? = some q → ∀ (k : Nat) (t : Int × Int), i ≤ k → (segs es)[k]? = some t → hi q ≤ t.1))
      ⟨0, 0, none, none, rfl, inv3, he3, h63, Nat.zero_le _, Nat.zero_le _, fun j q hj => absurd hj (Nat.not_lt_zero _), fun j q hj => absurd hj (Nat.not_lt_zero _)⟩ (fun i σ H' _ ⟨_, _, _, _, _, _, e1, e2, _⟩ => ⟨SqL.of e1, SqL.of e2⟩) ?_ ?_⟩
    · rintro i x σ H4 H5 hin ⟨ia, ib, v7, v8, rfl, inv4, he4, h64, la, lb, ba, bb⟩ ⟨T2, y1, y2, rfl, hT, rfl, hy1, hy2⟩
      obtain ⟨bg, en, rfl, rfl, hsg⟩ := segs_at hy1 hy2
      obtain ⟨V4, xs4, x4, f1, f2, f3⟩ := inv4.ex
      have sT : Same H4 (upd H4 T2 (.tup [.int bg, .int en])) := same_upd hT
      have x5 : Ext V4 H4 V4 (upd H4 T2 (.tup [.int bg, .int en])) := Ext.skip x4.vh hT
      have e5 : (upd H4 T2 (.tup [.int bg, .int en])) T2 = _ := upd_same
      have sU5 : Same U (upd H4 T2 (.tup [.int bg, .int en])) := x4.vv.trans x5.vh
      generalize upd H4 T2 (.tup [.int bg, .int en]) = H5 at sT x5 e5 sU5 ⊢
      refine ⟨T2, _, rfl, SqT.of e5, rfl, _, _, rfl, _, _, rfl, rfl, ?_⟩
      refine ⟨_, rfl, _, rfl, _, rfl, r, lo, hi, D, Aa, pa, xa, ia, bg, rfl, hD, sU5.seq hSa, dpall_same sU5 _ _ hXa, la, fun j q hj hq => ba j q hj hq i _ (Nat.le_refl _) hsg, fun ia' la' ba1 ba2 => ?_⟩
      refine ⟨_, rfl, _, rfl, _, rfl, r, lo, hi, D, Bb, pb, xb, ib, bg, rfl, hD, sU5.seq hSb, dpall_same sU5 _ _ hXb, lb, fun j q hj hq => bb j q hj hq i _ (Nat.le_refl _) hsg, fun ib' lb' bb1 bb2 => ?_⟩
      have ra := rowAt_idx Ra ba1 ba2
      have rb := rowAt_idx Rb bb1 bb2
      have sV : Same U V4 := x4.vv
      refine ⟨_, rfl, .inl ⟨rfl, _, SqL.of (x5.hh _ _ f2)⟩, _, rfl, _, rfl, _, rfl, _, rfl, _, rfl, r, lo, hi, D, Aa, pa, xa, ia', bg, V4, rfl, hD, x5.vh, sV.seq hSa, dpall_same sV _ _ hXa, fun va da => ?_⟩
      refine ⟨_, rfl, _, rfl, _, rfl, r, lo, hi, D, Bb, pb, xb, ib', bg, V4, rfl, hD, x5.vh, sV.seq hSb, dpall_same sV _ _ hXb, fun vb db => ?_⟩
      rw [← ra] at da
      rw [← rb] at db
      refine ⟨len_line (by show 4 ≤ 100000; decide), fun pt hpt => ?_⟩
      have x6 := x5.trans (Ext.new (o := .tup [.int bg, .int en, va, vb]) x5.vh hpt)
      have sq := same_upd (o := .tup [.int bg, .int en, va, vb]) (none_of_same x5.vh hpt)
      have dt : Dp K (upd V4 pt (.tup [.int bg, .int en, va, vb])) (.ref pt) (pieceD lo hi D Aa Bb (bg, en)) := .tup (SqT.of upd_same) (.cons (.int _) (.cons (.int _) (.cons (da.to sq) (.cons (db.to sq) .nil))))
      have hl : (((segs es).take i).map (pieceD lo hi D Aa Bb)).length < 100000 := by
        rw [List.length_map, List.length_take]
        have := (List.getElem?_eq_some_iff.mp hsg).1
        rw [segs_len] at this; omega
      obtain ⟨acc', j1, j2, j3⟩ := LcInv.push npp x4 f1 f2 f3 x6 dt hl
      refine ⟨pp, _, _, rfl, rfl, j1, j2, ?_⟩
      have et : ((segs es).take (i + 1)).map (pieceD lo hi D Aa Bb) = ((segs es).take i).map (pieceD lo hi D Aa Bb) ++ [pieceD lo hi D Aa Bb (bg, en)] := by
        obtain ⟨hl', e'⟩ := List.getElem?_eq_some_iff.mp hsg
        rw [List.take_succ_eq_append_getElem hl', List.map_append, e']; rfl
      refine ⟨ia', ib', _, _, rfl, by rw [et]; exact j3, ?_, ?_, la', lb', fun j q hj hq k t hk ht => ?_, fun j q hj hq k t hk ht => ?_⟩
      · rw [upd_ne npe]; exact x6.hh _ _ he4
      · rw [upd_ne np6]; exact x6.hh _ _ h64
      · exact Int.le_trans (ba1 j q hj hq) (segs_asc hep (i := i) (j := k) (by omega) hsg ht)
      · exact Int.le_trans (bb1 j q hj hq) (segs_asc hep (i := i) (j := k) (by omega) hsg ht)
    · rintro σ H4 ⟨ia, ib, v7, v8, rfl, inv4, _⟩
      rw [List.take_length] at inv4
      obtain ⟨U5, xs5, x5, k1, k2, k3⟩ := inv4.done npp
      exact ⟨_, rfl, q _ _ _ es ⟨x5.vv, x5.vh, s1.trans x5.hh, fun a h => by
        rcases x5.nw a h with z | z
        · exact .inl z
        · exact .inr (s1.free z)⟩ hel hep hem k3⟩
def sp__first_ending_behind_T (K : PySem.W.Frag) : Sp := fun vs H Q _ => ∃ (r : Type) (lo hi : r → Int) (D : r → PyData) (rows : List r) (p : Addr) (xs : List V) (i : Nat) (pl : Int), vs = [.ref p, .int (i : Int), .int pl] ∧ RowOf K lo hi D ∧ SqT K H p xs ∧ DpAll K H xs (rows.map D) ∧ i ≤ rows.length ∧ (∀ (j : Nat) (q : r), j < i → rows[j]? = some q → hi q ≤ pl) ∧
  ∀ i' : Nat, i' ≤ rows.length → (∀ (j : Nat) (q : r), j < i' → rows[j]? = some q → hi q ≤ pl) → (∀ q, rows[i']? = some q → pl < hi q) → Q (.int (i' : Int)) H
theorem ok__first_ending_behind_T (T : Txt K mg A) : FnOk P w K mg base CX0 1 A.f_first_ending_behind A.d_first_ending_behind ["rows", "at", "place"] (sp__first_ending_behind_T K) := by
  refine T.F_first_ending_behind.ok sc__first_ending_behind (fun vs H Q E h => ?_) (fun cdv Ar outer s H vs Q E hr h => ?_)
  · obtain ⟨_, _, _, _, _, _, _, _, _, rfl, _⟩ := h
    rfl
  · obtain ⟨r, lo, hi, D, rows, p, xs, i, pl, rfl, hD, hS, hX, hi0, hb, q⟩ := h
    refine ⟨_, (pss_cons (ps_while PassesOwn.never (PW.pt (pw_and (pt_cmpR op_lt (pv 1) (pe_callB call_len_seq (by rfl) T.len PySem.boot_len (pa_cons (pv 0) pa_nil)) (nomark _)) (pw_and1 (pt_cmpR op_le (pe_ix (r := rIxT K) ix_tup (pe_ix (r := rIxT K) ix_tup (pv 0) (pv 1) (fun _ _ => rfl)) pe_int (fun _ _ => rfl)) (pv 2) (nomark _)))))
      (pss_one (ps_aug (i := 1) sc__first_ending_behind.nd rfl (Or.inl rfl) pe_int ip_add)))
      (pss_one (ps_ret (pv 1)))), ?_⟩
    have hx : xs.length = rows.length := by rw [dpall_len hX, List.length_map]
    refine ⟨fun m σ H' => H' = H ∧ ∃ k : Nat, σ = [some (.ref p), some (.int (k : Int)), some (.int pl)] ∧ k ≤ rows.length ∧ m = rows.length - k ∧ ∀ (j : Nat) (q : r), j < k → rows[j]? = some q → hi q ≤ pl, ⟨_, rfl, i, rfl, hi0, rfl, hb⟩, ?_⟩
    rintro m σ H' ⟨rfl, k, rfl, hk, rfl, hkb⟩
    have fin : (∀ q, rows[k]? = some q → pl < hi q) → tRet (tVar 1) { nx := fun x H' => Q V.non H', rt := Q } [some (.ref p), some (.int (k : Int)), some (.int pl)] H' := fun h => ⟨_, rfl, q k hk hkb h⟩
    refine ⟨_, rfl, _, rfl, p, _, rfl, .inr hS, _, _, rfl, rfl, _, rfl, iteP (fun h => ?_) (fun h => ?_)⟩
    · have hk2 : k < rows.length := by rw [← hx]; omega
      have hr' := List.getElem?_eq_getElem hk2
      obtain ⟨v, hv, dv⟩ := dpall_get' hX (i := k) (d := D rows[k]) (by rw [List.getElem?_map, hr']; rfl)
      obtain ⟨pr, rest, rfl, hpr⟩ := hD _ _ _ dv
      generalize rows[k] = row at hr' dv hpr
      refine ⟨_, rfl, _, rfl, p, _, _, _, rfl, rfl, hS, atI_nat hv, pr, _, _, _, rfl, rfl, hpr, atI_nat (j := 1) rfl, _, rfl, _, _, rfl, rfl, _, rfl, iteP (fun h2 => ?_) (fun h2 => ?_)⟩
      · refine ⟨fun σ' H2 => H2 = H' ∧ σ' = [some (.ref p), some (.int ((k + 1 : Nat) : Int)), some (.int pl)], ?_, ?_⟩
        · rintro σ' H2 ⟨rfl, rfl⟩
          refine ⟨rows.length - (k + 1), by omega, rfl, k + 1, rfl, hk2, rfl, fun j q hj hq => ?_⟩
          by_cases e : j = k
          · subst e; rw [hr'] at hq; cases hq; exact h2
          · exact hkb j q (by omega) hq
        · exact ⟨_, rfl, _, _, rfl, rfl, rfl, by rw [Int.natCast_add]; rfl⟩
      · exact fin fun q hq => by rw [hr'] at hq; cases hq; omega
    · exact fin fun q hq => by
        have := (List.getElem?_eq_some_iff.mp hq).1
        rw [hx] at h; omega
def sp__row_from_T (K : PySem.W.Frag) : Sp := fun vs H Q _ => ∃ (r : Type) (lo hi : r → Int) (D : r → PyData) (rows : List r) (p : Addr) (xs : List V) (i : Nat) (pl : Int) (U : Hp), vs = [.ref p, .int (i : Int), .int pl] ∧ RowOf K lo hi D ∧ Same U H ∧ SqT K U p xs ∧ DpAll K U xs (rows.map D) ∧
  ∀ v, Dp K U v (oD D ((rows[i]?).filter fun q => decide (lo q ≤ pl))) → Q v H
theorem ok__row_from_T (T : Txt K mg A) : FnOk P w K mg base CX0 1 A.f_row_from A.d_row_from ["rows", "at", "place"] (sp__row_from_T K) := by
  refine T.F_row_from.ok sc__row_from (fun vs H Q E h => ?_) (fun cdv Ar outer s H vs Q E hr h => ?_)
  · obtain ⟨_, _, _, _, _, _, _, _, _, _, rfl, _⟩ := h
    rfl
  · obtain ⟨r, lo, hi, D, rows, p, xs, i, pl, U, rfl, hD, sU, hS0, hX, q⟩ := h
    have hS := sU.sqt hS0
    refine ⟨_, (pss_one (ps_ret (pe_ifExp (PW.pt (pw_and (pt_cmpR op_lt (pv 1) (pe_callB call_len_seq (by rfl) T.len PySem.boot_len (pa_cons (pv 0) pa_nil)) (nomark _)) (pw_and1 (pt_cmpR op_le (pe_ix (r := rIxT K) ix_tup (pe_ix (r := rIxT K) ix_tup (pv 0) (pv 1) (fun _ _ => rfl)) pe_int (fun _ _ => rfl)) (pv 2) (nomark _))))) (pe_ix (r := rIxT K) ix_tup (pv 0) (pv 1) (fun _ _ => rfl)) pe_non))), ?_⟩
    have hx : xs.length = rows.length := by rw [dpall_len hX, List.length_map]
    refine ⟨_, rfl, _, rfl, p, _, rfl, .inr hS, _, _, rfl, rfl, _, rfl, iteP (fun h => ?_) (fun h => ?_)⟩
    · have hk2 : i < rows.length := by rw [← hx]; omega
      have hr' := List.getElem?_eq_getElem hk2
      obtain ⟨v, hv, dv⟩ := dpall_get' hX (i := i) (d := D rows[i]) (by rw [List.getElem?_map, hr']; rfl)
      obtain ⟨pr, rest, rfl, hpr0⟩ := hD _ _ _ dv
      have hpr := sU.sqt hpr0
      generalize rows[i] = row at hr' dv hpr0 hpr
      rw [hr'] at q
      refine ⟨_, rfl, _, rfl, p, _, _, _, rfl, rfl, hS, atI_nat hv, pr, _, _, _, rfl, rfl, hpr, atI_nat (j := 0) rfl, _, rfl, _, _, rfl, rfl, _, rfl, iteP (fun h2 => ?_) (fun h2 => ?_)⟩
      · refine ⟨_, rfl, _, rfl, p, _, _, _, rfl, rfl, hS, atI_nat hv, q _ ?_⟩
        rw [Option.filter_some, decide_eq_true h2]; exact dv
      · refine q _ ?_
        rw [Option.filter_some, decide_eq_false h2]; exact .non
    · refine q _ ?_
      rw [List.getElem?_eq_none (by rw [hx] at h; omega)]
      exact .non
def sp__pieces_T (K : PySem.W.Frag) : Sp := fun vs H Q _ => ∃ (r : Type) (lo hi : r → Int) (D : r → PyData) (Aa Bb : List r) (pa pb : Addr) (xa xb : List V) (U : Hp), vs = [.ref pa, .ref pb] ∧ RowOf K lo hi D ∧ Same U H ∧ SqT K U pa xa ∧ DpAll K U xa (Aa.map D) ∧ SqT K U pb xb ∧ DpAll K U xb (Bb.map D) ∧
  Rows lo hi Aa ∧ Rows lo hi Bb ∧ Aa.length + Bb.length < 900 ∧ (∃ e0 : List Int, (∀ k, k ∈ edgeL lo hi Aa Bb → k ∈ e0) ∧ e0.length < 400) ∧
  ∀ v U' H' es, Ext U H U' H' → es.length < 400 → es.Pairwise (· < ·) → (∀ k, k ∈ es ↔ k ∈ edgeL lo hi Aa Bb) → Dp K U' v (.list ((segs es).map (pieceD lo hi D Aa Bb))) → Q v H'
theorem ok__pieces_T (T : Txt K mg A) : FnOk P w K mg base CX0 2 A.f_pieces A.d_pieces ["a", "b"] (sp__pieces_T K) := by
  refine T.F_pieces.ok sc__pieces (fun vs H Q E h => ?_) (fun cdv Ar outer s H vs Q E hr h => ?_)
  · obtain ⟨_, _, _, _, _, _, _, _, _, _, _, rfl, _⟩ := h
    rfl
  · obtain ⟨r, lo, hi, D, Aa, Bb, pa, pb, xa, xb, U, rfl, hD, sU, hSa, hXa, hSb, hXb, Ra, Rb, hln, ⟨e0, he0, hl0⟩, q⟩ := h
    refine ⟨_, (C8.pss_cut (ps_set (i := 2) sc__pieces.nd rfl (Or.inl rfl) (pe_callB (cr_sortB rfl) (by rfl) T.sorted (by decide +kernel) (pa_cons (pe_callTy (cr_setI rfl) (by rfl) T.set (by decide +kernel) (pa_cons (pe_op op_cat (pe_op op_cat (pe_op op_cat (pe_lc (own := [("row", 3)]) (g := (gName 3)) (tt := tYes) rfl sc__pieces.nd (pi_tup (pv 0)) (blkOk_by (own := [("row", 3)]) (N := ["a", "b", "edges", "row", "pieces", "at_a", "at_b", "begin", "end"]) (sc := defScope s__pieces) (by decide +kernel)) (fun _ _ _ _ _ => (pg_name (i := 3) sc__pieces.nd rfl (Or.inl rfl))) (fun _ _ _ _ _ => pts_nil) (fun _ _ _ _ _ => by exact (pe_ix (r := rIxT K) ix_tup (pv 3) pe_int (fun _ _ => rfl)))) (pe_lc (own := [("row", 3)]) (g := (gName 3)) (tt := tYes) rfl sc__pieces.nd (pi_tup (pv 0)) (blkOk_by (own := [("row", 3)]) (N := ["a", "b", "edges", "row", "pieces", "at_a", "at_b", "begin", "end"]) (sc := defScope s__pieces) (by decide +kernel)) (fun _ _ _ _ _ => (pg_name (i := 3) sc__pieces.nd rfl (Or.inl rfl))) (fun _ _ _ _ _ => pts_nil) (fun _ _ _ _ _ => by exact (pe_ix (r := rIxT K) ix_tup (pv 3) pe_int (fun _ _ => rfl))))) (pe_lc (own := [("row", 3)]) (g := (gName 3)) (tt := tYes) rfl sc__pieces.nd (pi_tup (pv 1)) (blkOk_by (own := [("row", 3)]) (N := ["a", "b", "edges", "row", "pieces", "at_a", "at_b", "begin", "end"]) (sc := defScope s__pieces) (by decide +kernel)) (fun _ _ _ _ _ => (pg_name (i := 3) sc__pieces.nd rfl (Or.inl rfl))) (fun _ _ _ _ _ => pts_nil) (fun _ _ _ _ _ => by exact (pe_ix (r := rIxT K) ix_tup (pv 3) pe_int (fun _ _ => rfl))))) (pe_lc (own := [("row", 3)]) (g := (gName 3)) (tt := tYes) rfl sc__pieces.nd (pi_tup (pv 1)) (blkOk_by (own := [("row", 3)]) (N := ["a", "b", "edges", "row", "pieces", "at_a", "at_b", "begin", "end"]) (sc := defScope s__pieces) (by decide +kernel)) (fun _ _ _ _ _ => (pg_name (i := 3) sc__pieces.nd rfl (Or.inl rfl))) (fun _ _ _ _ _ => pts_nil) (fun _ _ _ _ _ => by exact (pe_ix (r := rIxT K) ix_tup (pv 3) pe_int (fun _ _ => rfl))))) pa_nil)) pa_nil)))
      (pss_cons (ps_set (i := 4) sc__pieces.nd rfl (Or.inl rfl) (pe_lst pa_nil))
      (pss_cons (ps_set (i := 5) sc__pieces.nd rfl (Or.inl rfl) pe_int)
      (pss_cons (ps_set (i := 6) sc__pieces.nd rfl (Or.inl rfl) pe_int)
      (pss_cons (ps_for PassesOwn.never rfl (pi_zip (by rfl) T.zip (pa_cons (pv 2) (pa_cons (pe_slice (r := rSlL K) sl_list (pv 2) (po_some pe_int) po_none) pa_nil))) (pg_tup rfl (pgs_cons (pg_name (i := 7) sc__pieces.nd rfl (Or.inl rfl)) (pgs_cons (pg_name (i := 8) sc__pieces.nd rfl (Or.inl rfl)) pgs_nil)))
      (pss_cons (ps_set (i := 5) sc__pieces.nd rfl (Or.inl rfl) (pe_call (ok__first_ending_behind_T T) (hr.mono (by decide)) rfl T.g_first_ending_behind T.k_first_ending_behind T.b_first_ending_behind .nil pass0 (pa_cons (pv 0) (pa_cons (pv 5) (pa_cons (pv 7) pa_nil)))))
      (pss_cons (ps_set (i := 6) sc__pieces.nd rfl (Or.inl rfl) (pe_call (ok__first_ending_behind_T T) (hr.mono (by decide)) rfl T.g_first_ending_behind T.k_first_ending_behind T.b_first_ending_behind .nil pass0 (pa_cons (pv 1) (pa_cons (pv 6) (pa_cons (pv 7) pa_nil)))))
      (pss_one (ps_expr (pe_bm PySem.F.plainAttrs_list PySem.F.slot_list_append PySem.F.type_list_append mt_append (pv 4) (pa_cons (pe_tup (pa_cons (pv 7) (pa_cons (pv 8) (pa_cons (pe_call (ok__row_from_T T) (hr.mono (by decide)) rfl T.g_row_from T.k_row_from T.b_row_from .nil pass0 (pa_cons (pv 0) (pa_cons (pv 5) (pa_cons (pv 7) pa_nil)))) (pa_cons (pe_call (ok__row_from_T T) (hr.mono (by decide)) rfl T.g_row_from T.k_row_from T.b_row_from .nil pass0 (pa_cons (pv 1) (pa_cons (pv 6) (pa_cons (pv 7) pa_nil)))) pa_nil))))) pa_nil)))))))
      (pss_one (ps_ret (pv 4)))))))), ?_⟩
    have lxa : xa.length = Aa.length := by rw [dpall_len hXa, List.length_map]
    have lxb : xb.length = Bb.length := by rw [dpall_len hXb, List.length_map]
    have atA : ∀ (i : Nat) (v : V), xa[i]? = some v → ∃ pr rest q, Aa[i]? = some q ∧ v = .ref pr ∧ SqT K U pr (.int (lo q) :: .int (hi q) :: rest) := row_at hD hXa
    have atB : ∀ (i : Nat) (v : V), xb[i]? = some v → ∃ pr rest q, Bb[i]? = some q ∧ v = .ref pr ∧ SqT K U pr (.int (lo q) :: .int (hi q) :: rest) := row_at hD hXb
    refine ⟨fun σ' H' => ∃ (pe : Addr) (es : List Int), σ' = [some (.ref pa), some (.ref pb), some (.ref pe), none, none, none, none, none, none] ∧ Same H H' ∧ H' pe = some (.lst (es.map V.int)) ∧ es.length < 400 ∧ es.Pairwise (· < ·) ∧ ∀ k, k ∈ es ↔ k ∈ edgeL lo hi Aa Bb, ?_, ?_⟩
    · refine ⟨_, rfl, pa, rfl, ⟨_, sU.sqt hSa⟩, fun D1 hD1 => ?_⟩
      refine lc_dp (walk_tup (K := K) (a := pa) (xs := xa)) (K := K) (V0 := H) (H0 := H) (fun i => (Aa[i]?).map fun q => PyData.int (lo q)) _ rfl (Same.refl _) hD1 (by omega) (fun H' s => s.sqt (sU.sqt hSa)) (fun i x H H' y => y.1) ?_ ?_
      · rintro j v U2 H2 hj xx ⟨_, hv⟩ Qy Qn hy _
        obtain ⟨pr, rest, qq, hq, rfl, hpr⟩ := atA j v hv
        exact ⟨rfl, _, rfl, pr, _, _, _, rfl, rfl, xx.hh.sqt (sU.sqt hpr), atI_nat (j := 0) rfl, hy _ _ _ _ (by rw [hq]; rfl) (Ext.refl xx.vh) (.int _)⟩
      rintro U1 H1 xs1 x1 d1 l1 _
      rw [lxa, fm_map] at l1
      have e1 : xs1 = (Aa.map lo).map V.int := dp_intsV (K := K) (H := U1) (by rw [List.map_map]; exact l1)
      subst e1
      have g1 := x1.vh _ _ d1
      have t1 := sU.trans x1.hh
      refine ⟨_, rfl, pa, rfl, ⟨_, t1.sqt hSa⟩, fun D2 hD2 => ?_⟩
      refine lc_dp (walk_tup (K := K) (a := pa) (xs := xa)) (K := K) (V0 := H1) (H0 := H1) (fun i => (Aa[i]?).map fun q => PyData.int (hi q)) _ rfl (Same.refl _) hD2 (by omega) (fun H' s => s.sqt (t1.sqt hSa)) (fun i x H H' y => y.1) ?_ ?_
      · rintro j v U2 H2 hj xx ⟨_, hv⟩ Qy Qn hy _
        obtain ⟨pr, rest, qq, hq, rfl, hpr⟩ := atA j v hv
        exact ⟨rfl, _, rfl, pr, _, _, _, rfl, rfl, xx.hh.sqt (t1.sqt hpr), atI_nat (j := 1) rfl, hy _ _ _ _ (by rw [hq]; rfl) (Ext.refl xx.vh) (.int _)⟩
      rintro U2 H2 xs2 x2 d2 l2 _
      rw [lxa, fm_map] at l2
      have e2 : xs2 = (Aa.map hi).map V.int := dp_intsV (K := K) (H := U2) (by rw [List.map_map]; exact l2)
      subst e2
      have g2 := x2.vh _ _ d2
      refine ⟨D1, D2, _, _, rfl, rfl, x2.hh _ _ g1, g2, len_line (by simp; omega), fun p3 hp3 => ?_⟩
      have g3 : (upd H2 p3 (.lst ((Aa.map lo).map V.int ++ (Aa.map hi).map V.int))) p3 = _ := upd_same
      have t3 := (t1.trans x2.hh).trans (same_upd (o := .lst ((Aa.map lo).map V.int ++ (Aa.map hi).map V.int)) hp3)
      have u3 := (x1.hh.trans x2.hh).trans (same_upd (o := .lst ((Aa.map lo).map V.int ++ (Aa.map hi).map V.int)) hp3)
      generalize upd H2 p3 (.lst ((Aa.map lo).map V.int ++ (Aa.map hi).map V.int)) = H3 at g3 t3 u3 ⊢
      refine ⟨_, rfl, pb, rfl, ⟨_, t3.sqt hSb⟩, fun D4 hD4 => ?_⟩
      refine lc_dp (walk_tup (K := K) (a := pb) (xs := xb)) (K := K) (V0 := H3) (H0 := H3) (fun i => (Bb[i]?).map fun q => PyData.int (lo q)) _ rfl (Same.refl _) hD4 (by omega) (fun H' s => s.sqt (t3.sqt hSb)) (fun i x H H' y => y.1) ?_ ?_
      · rintro j v U2 H2 hj xx ⟨_, hv⟩ Qy Qn hy _
        obtain ⟨pr, rest, qq, hq, rfl, hpr⟩ := atB j v hv
        exact ⟨rfl, _, rfl, pr, _, _, _, rfl, rfl, xx.hh.sqt (t3.sqt hpr), atI_nat (j := 0) rfl, hy _ _ _ _ (by rw [hq]; rfl) (Ext.refl xx.vh) (.int _)⟩
      rintro U4 H4 xs4 x4 d4 l4 _
      rw [lxb, fm_map] at l4
      have e4 : xs4 = (Bb.map lo).map V.int := dp_intsV (K := K) (H := U4) (by rw [List.map_map]; exact l4)
      subst e4
      have g4 := x4.vh _ _ d4
      refine ⟨p3, D4, _, _, rfl, rfl, x4.hh _ _ g3, g4, len_line (by simp; omega), fun p5 hp5 => ?_⟩
      have g5 : (upd H4 p5 (.lst (((Aa.map lo).map V.int ++ (Aa.map hi).map V.int) ++ (Bb.map lo).map V.int))) p5 = _ := upd_same
      have t5 := (t3.trans x4.hh).trans (same_upd (o := .lst (((Aa.map lo).map V.int ++ (Aa.map hi).map V.int) ++ (Bb.map lo).map V.int)) hp5)
      have u5 := (u3.trans x4.hh).trans (same_upd (o := .lst (((Aa.map lo).map V.int ++ (Aa.map hi).map V.int) ++ (Bb.map lo).map V.int)) hp5)
      generalize upd H4 p5 (.lst (((Aa.map lo).map V.int ++ (Aa.map hi).map V.int) ++ (Bb.map lo).map V.int)) = H5 at g5 t5 u5 ⊢
      refine ⟨_, rfl, pb, rfl, ⟨_, t5.sqt hSb⟩, fun D6 hD6 => ?_⟩
      refine lc_dp (walk_tup (K := K) (a := pb) (xs := xb)) (K := K) (V0 := H5) (H0 := H5) (fun i => (Bb[i]?).map fun q => PyData.int (hi q)) _ rfl (Same.refl _) hD6 (by omega) (fun H' s => s.sqt (t5.sqt hSb)) (fun i x H H' y => y.1) ?_ ?_
      · rintro j v U2 H2 hj xx ⟨_, hv⟩ Qy Qn hy _
        obtain ⟨pr, rest, qq, hq, rfl, hpr⟩ := atB j v hv
        exact ⟨rfl, _, rfl, pr, _, _, _, rfl, rfl, xx.hh.sqt (t5.sqt hpr), atI_nat (j := 1) rfl, hy _ _ _ _ (by rw [hq]; rfl) (Ext.refl xx.vh) (.int _)⟩
      rintro U6 H6 xs6 x6 d6 l6 _
      rw [lxb, fm_map] at l6
      have e6 : xs6 = (Bb.map hi).map V.int := dp_intsV (K := K) (H := U6) (by rw [List.map_map]; exact l6)
      subst e6
      have g6 := x6.vh _ _ d6
      refine ⟨p5, D6, _, _, rfl, rfl, x6.hh _ _ g5, g6, len_line (by simp; omega), fun p7 hp7 => ?_⟩
      have ee : (((Aa.map lo).map V.int ++ (Aa.map hi).map V.int) ++ (Bb.map lo).map V.int) ++ (Bb.map hi).map V.int = (edgeL lo hi Aa Bb).map V.int := by unfold edgeL; simp only [List.map_append]
      have el : (edgeL lo hi Aa Bb).length < 1800 := by unfold edgeL; simp only [List.length_append, List.length_map]; omega
      rw [ee]
      refine ⟨p7, edgeL lo hi Aa Bb, rfl, SqL.of upd_same, by unfold scanBound; omega, fun ps c hps hc hc2 => ?_⟩
      have hc3 := hc2 e0 he0
      refine ⟨ps, _, c, rfl, upd_same, fun es p8 hs hm hl hp8 => ?_⟩
      refine ⟨p8, es, rfl, ?_, upd_same, by omega, hs, fun k => by rw [hm k, decide_eq_true_eq]⟩
      exact (((u5.trans x6.hh).trans (same_upd hp7)).trans (same_upd hps)).trans (same_upd hp8)
    rintro σ' H1 ⟨pe, es, rfl, s1, he, hel, hep, hem⟩
    refine ⟨len_line (by show 0 ≤ 100000; decide), fun pp hpp => ?_⟩
    have sU1 := sU.trans s1
    have inv0 := LcInv.start (K := K) sU1 hpp
    have he2 := same_upd (o := .lst []) hpp _ _ he
    have s2 : Same H1 (upd H1 pp (.lst [])) := same_upd hpp
    generalize hH2 : upd H1 pp (.lst []) = H2 at inv0 he2 s2 ⊢
    refine ⟨_, rfl, _, rfl, _, rfl, pe, _, rfl, SqL.of he2, fun p6 hp6 => ?_⟩
    rw [cut_tail] at *
    have hsl : (segs es).length = min (es.map V.int).length (es.map V.int).tail.length := by rw [segs_len]; simp
    have he3 := same_upd (o := .lst (es.map V.int).tail) hp6 _ _ he2
    have h63 : (upd H2 p6 (.lst (es.map V.int).tail)) p6 = _ := upd_same
    have inv3 : LcInv K U H1 pp [] (upd H2 p6 (.lst (es.map V.int).tail)) := by
      obtain ⟨V1, xs, x, f1, f2, f3⟩ := inv0.ex
      have sn := same_upd (o := .lst (es.map V.int).tail) hp6
      exact ⟨V1, xs, ⟨x.vv, x.vh.trans sn, x.hh.trans sn, x.nw⟩, f1, sn _ _ f2, f3⟩
    have npp : H1 pp = none := hpp
    have npe : pe ≠ pp := fun z => by rw [z, npp] at he; cases he
    have np6 : p6 ≠ pp := (ne_of_none (by rw [← hH2]; exact upd_same : H2 pp = some (.lst [])) hp6).symm
    generalize upd H2 p6 (.lst (es.map V.int).tail) = H3 at he3 h63 inv3 ⊢
    have keep : ∀ H' acc, LcInv K U H1 pp acc H' → Same H1 H' := fun H' acc i => by obtain ⟨_, _, x, _⟩ := i.ex; exact x.hh
    refine ⟨pe, p6, _, _, rfl, SqL.of he3, SqL.of h63, for_it (walk_zip (K := K) (a := pe) (b := p6) (n := (segs es).length) hsl)
      (fun i σ H' => ∃ (ia ib : Nat) (v7 v8 : Option V), σ = [some (.ref pa), some (.ref pb), some (.ref pe), none, some (.ref pp), some (.int (ia : Int)), some (.int (ib : Int)), v7, v8] ∧ LcInv K U H1 pp (((segs es).take i).map (pieceD lo hi D Aa Bb)) H' ∧ H' pe = some (.lst (es.map V.int)) ∧ H' p6 = some (.lst (es.map V.int).tail) ∧
        ia ≤ Aa.length ∧ ib ≤ Bb.length ∧ (∀ (j : Nat) (q : r), j < ia → Aa[j]? = some q → ∀ (k : Nat) (t : Int × Int), i ≤ k → (segs es)[k]? = some t → hi q ≤ t.1) ∧ (∀ (j : Nat) (q : r), j < ib → Bb[j]? = some q → ∀ (k : Nat) (t : Int × Int), i ≤ k → (segs es)[k]? = some t → hi q ≤ t.1))
      ⟨0, 0, none, none, rfl, inv3, he3, h63, Nat.zero_le _, Nat.zero_le _, fun j q hj => absurd hj (Nat.not_lt_zero _), fun j q hj => absurd hj (Nat.not_lt_zero _)⟩ (fun i σ H' _ ⟨_, _, _, _, _, _, e1, e2, _⟩ => ⟨SqL.of e1, SqL.of e2⟩) ?_ ?_⟩
    · rintro i x σ H4 H5 hin ⟨ia, ib, v7, v8, rfl, inv4, he4, h64, la, lb, ba, bb⟩ ⟨T2, y1, y2, rfl, hT, rfl, hy1, hy2⟩
      obtain ⟨bg, en, rfl, rfl, hsg⟩ := segs_at hy1 hy2
      obtain ⟨V4, xs4, x4, f1, f2, f3⟩ := inv4.ex
      have sT : Same H4 (upd H4 T2 (.tup [.int bg, .int en])) := same_upd hT
      have x5 : Ext V4 H4 V4 (upd H4 T2 (.tup [.int bg, .int en])) := Ext.skip x4.vh hT
      have e5 : (upd H4 T2 (.tup [.int bg, .int en])) T2 = _ := upd_same
      have sU5 : Same U (upd H4 T2 (.tup [.int bg, .int en])) := x4.vv.trans x5.vh
      generalize upd H4 T2 (.tup [.int bg, .int en]) = H5 at sT x5 e5 sU5 ⊢
      refine ⟨T2, _, rfl, SqT.of e5, rfl, _, _, rfl, _, _, rfl, rfl, ?_⟩
      refine ⟨_, rfl, _, rfl, _, rfl, r, lo, hi, D, Aa, pa, xa, ia, bg, rfl, hD, sU5.sqt hSa, dpall_same sU5 _ _ hXa, la, fun j q hj hq => ba j q hj hq i _ (Nat.le_refl _) hsg, fun ia' la' ba1 ba2 => ?_⟩
      refine ⟨_, rfl, _, rfl, _, rfl, r, lo, hi, D, Bb, pb, xb, ib, bg, rfl, hD, sU5.sqt hSb, dpall_same sU5 _ _ hXb, lb, fun j q hj hq => bb j q hj hq i _ (Nat.le_refl _) hsg, fun ib' lb' bb1 bb2 => ?_⟩
      have ra := rowAt_idx Ra ba1 ba2
      have rb := rowAt_idx Rb bb1 bb2
      have sV : Same U V4 := x4.vv
      refine ⟨_, rfl, .inl ⟨rfl, _, SqL.of (x5.hh _ _ f2)⟩, _, rfl, _, rfl, _, rfl, _, rfl, _, rfl, r, lo, hi, D, Aa, pa, xa, ia', bg, V4, rfl, hD, x5.vh, sV.sqt hSa, dpall_same sV _ _ hXa, fun va da => ?_⟩
      refine ⟨_, rfl, _, rfl, _, rfl, r, lo, hi, D, Bb, pb, xb, ib', bg, V4, rfl, hD, x5.vh, sV.sqt hSb, dpall_same sV _ _ hXb, fun vb db => ?_⟩
      rw [← ra] at da
      rw [← rb] at db
      refine ⟨len_line (by show 4 ≤ 100000; decide), fun pt hpt => ?_⟩
      have x6 := x5.trans (Ext.new (o := .tup [.int bg, .int en, va, vb]) x5.vh hpt)
      have sq := same_upd (o := .tup [.int bg, .int en, va, vb]) (none_of_same x5.vh hpt)
      have dt : Dp K (upd V4 pt (.tup [.int bg, .int en, va, vb])) (.ref pt) (pieceD lo hi D Aa Bb (bg, en)) := .tup (SqT.of upd_same) (.cons (.int _) (.cons (.int _) (.cons (da.to sq) (.cons (db.to sq) .nil))))
      have hl : (((segs es).take i).map (pieceD lo hi D Aa Bb)).length < 100000 := by
        rw [List.length_map, List.length_take]
        have := (List.getElem?_eq_some_iff.mp hsg).1
        rw [segs_len] at this; omega
      obtain ⟨acc', j1, j2, j3⟩ := LcInv.push npp x4 f1 f2 f3 x6 dt hl
      refine ⟨pp, _, _, rfl, rfl, j1, j2, ?_⟩
      have et : ((segs es).take (i + 1)).map (pieceD lo hi D Aa Bb) = ((segs es).take i).map (pieceD lo hi D Aa Bb) ++ [pieceD lo hi D Aa Bb (bg, en)] := by
        obtain ⟨hl', e'⟩ := List.getElem?_eq_some_iff.mp hsg
        rw [List.take_succ_eq_append_getElem hl', List.map_append, e']; rfl
      refine ⟨ia', ib', _, _, rfl, by rw [et]; exact j3, ?_, ?_, la', lb', fun j q hj hq k t hk ht => ?_, fun j q hj hq k t hk ht => ?_⟩
      · rw [upd_ne npe]; exact x6.hh _ _ he4
      · rw [upd_ne np6]; exact x6.hh _ _ h64
      · exact Int.le_trans (ba1 j q hj hq) (segs_asc hep (i := i) (j := k) (by omega) hsg ht)
      · exact Int.le_trans (bb1 j q hj hq) (segs_asc hep (i := i) (j := k) (by omega) hsg ht)
    · rintro σ H4 ⟨ia, ib, v7, v8, rfl, inv4, _⟩
      rw [List.take_length] at inv4
      obtain ⟨U5, xs5, x5, k1, k2, k3⟩ := inv4.done npp
      exact ⟨_, rfl, q _ _ _ es ⟨x5.vv, x5.vh, s1.trans x5.hh, fun a h => by
        rcases x5.nw a h with z | z
        · exact .inl z
        · exact .inr (s1.free z)⟩ hel hep hem k3⟩
/-! ### what is kept; the spans of two bands together -/
def sp_keep (op : Bool → Bool → Bool) (K : PySem.W.Frag) : Sp := fun vs H Q _ => ∃ a b : Bool, vs = [.bl a, .bl b] ∧ Q (.bl (op a b)) H
def KeepAt (A : Adr) (f : Addr) (op : Bool → Bool → Bool) : Prop := (f = A.f_either ∧ op = or) ∨ (f = A.f_first_alone ∧ op = fun a b => a && !b)
theorem KeepAt.ff {A : Adr} {f : Addr} {op : Bool → Bool → Bool} (h : KeepAt A f op) : op false false = false := by
  rcases h with ⟨_, rfl⟩ | ⟨_, rfl⟩ <;> rfl
theorem sc__either : FnScope ["first", "second"] ["first", "second"] (defScope s__either) := ⟨rfl, rfl, rfl, by decide +kernel, rfl, by decide +kernel, by decide +kernel⟩
theorem sc__first_alone : FnScope ["first", "second"] ["first", "second"] (defScope s__first_alone) := ⟨rfl, rfl, rfl, by decide +kernel, rfl, by decide +kernel, by decide +kernel⟩
theorem ok__either (T : Txt K mg A) : FnOk P w K mg base CX0 1 A.f_either A.d_either ["first", "second"] (sp_keep or K) := by
  refine T.F_either.ok sc__either (fun vs H Q E h => ?_) (fun cdv Ar outer s H vs Q E hr h => ?_)
  · obtain ⟨_, _, rfl, _⟩ := h
    rfl
  · obtain ⟨a, b, rfl, q⟩ := h
    refine ⟨_, (pss_one (ps_ret (pe_or (pv 0) (pe_one (pv 1))))), ?_⟩
    cases a <;> walk_at "go" <;> exact q
theorem ok__first_alone (T : Txt K mg A) : FnOk P w K mg base CX0 1 A.f_first_alone A.d_first_alone ["first", "second"] (sp_keep (fun a b => a && !b) K) := by
  refine T.F_first_alone.ok sc__first_alone (fun vs H Q E h => ?_) (fun cdv Ar outer s H vs Q E hr h => ?_)
  · obtain ⟨_, _, rfl, _⟩ := h
    rfl
  · obtain ⟨a, b, rfl, q⟩ := h
    refine ⟨_, (pss_one (ps_ret (pe_and (pv 0) (pe_one (pe_not (pv 1)))))), ?_⟩
    cases a <;> walk_at "go" <;> exact q
theorem keep_ok (T : Txt K mg A) {f : Addr} {op : Bool → Bool → Bool} (h : KeepAt A f op) : ∃ (fd : FuncData) (ps : List Str), FnOk P w K mg base CX0 1 f fd ps (sp_keep op K) ∧ PySem.W.keepIn K (.ref f) = true ∧ Binds K fd ps [] := by
  rcases h with ⟨rfl, rfl⟩ | ⟨rfl, rfl⟩
  · exact ⟨_, _, ok__either T, T.k_either, T.b_either⟩
  · exact ⟨_, _, ok__first_alone T, T.k_first_alone, T.b_first_alone⟩
theorem row_span : RowOf K Prod.fst Prod.snd spanD := fun H v q h => by
  obtain ⟨a, e, h2⟩ := dp_span h
  exact ⟨a, [], e, h2⟩
theorem row_band : RowOf K (fun b : Band => b.1) (fun b => b.2.1) bandD := fun H v q h => by
  obtain ⟨a, p, ss, e, h2, _⟩ := dp_band h
  exact ⟨a, [.ref p], e, h2⟩
def spC (p q : Span) : Bool := decide (p.2 = q.1)
def spJ (p q : Span) : Span := (p.1, q.2)
def keptS (op : Bool → Bool → Bool) (a b : List Span) (ss : List (Int × Int)) : List Span := ss.filter fun s => op (rowAt Prod.fst Prod.snd a s.1).isSome (rowAt Prod.fst Prod.snd b s.1).isSome
def combS (op : Bool → Bool → Bool) (a b : List Span) (es : List Int) : List Span := merge spC spJ (keptS op a b (segs es))
theorem not_none {r : Type} {lo hi : r → Int} {D : r → PyData} {K : PySem.W.Frag} {H : Hp} {v : V} {o : Option r} (hD : RowOf K lo hi D) (h : Dp K H v (oD D o)) : (!decide (v = .non)) = o.isSome := by
  cases o with
  | none => cases h; rfl
  | some q =>
    obtain ⟨p, rest, rfl, _⟩ := hD _ _ _ h
    rw [decide_eq_false (fun z => by cases z)]; rfl
theorem filter_snoc {α : Type} (f : α → Bool) {xs : List α} {i : Nat} {x : α} (h : xs[i]? = some x) : (xs.take (i + 1)).filter f = (xs.take i).filter f ++ (if f x = true then [x] else []) := by
  obtain ⟨hi, e⟩ := List.getElem?_eq_some_iff.mp h
  rw [List.take_succ_eq_append_getElem hi, List.filter_append, e]
  by_cases c : f x = true
  · rw [if_pos c, List.filter_cons_of_pos c]; rfl
  · rw [if_neg c, List.filter_cons_of_neg c]; rfl
theorem mstep_len {e : Type} (cond : e → e → Bool) (join : e → e → e) (acc : List e) (q : e) : (mstep cond join acc q).length ≤ acc.length + 1 := by
  rcases last_cases acc with rfl | ⟨a, p, rfl⟩
  · exact Nat.le_refl 1
  · rw [mstep_last]; split <;> simp
theorem merge_len {e : Type} (cond : e → e → Bool) (join : e → e → e) : ∀ (n : Nat) (qs : List e), qs.length = n → (merge cond join qs).length ≤ n
  | 0, qs, h => by cases List.eq_nil_of_length_eq_zero h; exact Nat.le_refl 0
  | n + 1, qs, h => by
    rcases last_cases qs with rfl | ⟨a, p, rfl⟩
    · cases h
    rw [merge_snoc]
    have h1 := merge_len cond join n a (by simpa using h)
    have h2 := mstep_len cond join (merge cond join a) p
    omega
theorem dpall_snoc {K : PySem.W.Frag} {H : Hp} : ∀ {ds : List PyData} {d : PyData} {zs : List V}, DpAll K H zs (ds ++ [d]) → ∃ z0 z, zs = z0 ++ [z] ∧ DpAll K H z0 ds ∧ Dp K H z d
  | [], d, zs, h => by
    cases h with | cons h1 h2 => cases h2; exact ⟨[], _, rfl, .nil, h1⟩
  | e :: ds, d, zs, h => by
    cases h with | cons h1 h2 =>
      obtain ⟨z0, z, e1, e2, e3⟩ := dpall_snoc h2
      exact ⟨_ :: z0, z, by rw [e1]; rfl, .cons h1 e2, e3⟩
def sp__combined_spans (A : Adr) (K : PySem.W.Frag) : Sp := fun vs H Q _ => ∃ (op : Bool → Bool → Bool) (a b : List Span) (pa pb f : Addr) (xa xb : List V) (U : Hp), vs = [.ref pa, .ref pb, .ref f] ∧ KeepAt A f op ∧ Same U H ∧ SqT K U pa xa ∧ DpAll K U xa (a.map spanD) ∧ SqT K U pb xb ∧ DpAll K U xb (b.map spanD) ∧
  Rows Prod.fst Prod.snd a ∧ Rows Prod.fst Prod.snd b ∧ a.length + b.length < 900 ∧ (∃ e0 : List Int, (∀ k, k ∈ edgeL Prod.fst Prod.snd a b → k ∈ e0) ∧ e0.length < 400) ∧
  ∀ v U' H' es, Ext U H U' H' → es.Pairwise (· < ·) → (∀ k, k ∈ es ↔ k ∈ edgeL Prod.fst Prod.snd a b) → Dp K U' v (spansD (combS op a b es)) → Q v H'
theorem sc__combined_spans : FnScope ["a", "b", "keeps", "spans", "begin", "end", "first", "second"] ["a", "b", "keeps"] (defScope s__combined_spans) := ⟨rfl, rfl, rfl, by decide +kernel, rfl, by decide +kernel, by decide +kernel⟩
theorem ok__combined_spans (T : Txt K mg A) : FnOk P w K mg base CX0 3 A.f_combined_spans A.d_combined_spans ["a", "b", "keeps"] (sp__combined_spans A K) := by
  refine T.F_combined_spans.ok sc__combined_spans (fun vs H Q E h => ?_) (fun cdv Ar outer s H vs Q E hr h => ?_)
  · obtain ⟨_, _, _, _, _, _, _, _, _, rfl, _⟩ := h
    rfl
  · obtain ⟨op, a, b, pa, pb, f, xa, xb, U, rfl, hk, sU, hSa, hXa, hSb, hXb, Ra, Rb, hln, he0, q⟩ := h
    obtain ⟨fdk, psk, Fkeeps, kkeeps, bkeeps⟩ := keep_ok (P := P) (w := w) (base := base) T hk
    refine ⟨_, (pss_cons (ps_set (i := 3) sc__combined_spans.nd rfl (Or.inl rfl) (pe_lst pa_nil))
      (pss_cons (ps_for PassesOwn.never rfl (pi_list (pe_call (ok__pieces_T T) (hr.mono (by decide)) rfl T.g_pieces T.k_pieces T.b_pieces .nil pass0 (pa_cons (pv 0) (pa_cons (pv 1) pa_nil)))) (pg_tup rfl (pgs_cons (pg_name (i := 4) sc__combined_spans.nd rfl (Or.inl rfl)) (pgs_cons (pg_name (i := 5) sc__combined_spans.nd rfl (Or.inl rfl)) (pgs_cons (pg_name (i := 6) sc__combined_spans.nd rfl (Or.inl rfl)) (pgs_cons (pg_name (i := 7) sc__combined_spans.nd rfl (Or.inl rfl)) pgs_nil)))))
      (pss_cons (ps_if (pt_not (pt_val (pe_callL (i := 2) Fkeeps (hr.mono (by decide)) rfl (Or.inl rfl) kkeeps bkeeps .nil pass0 (pa_cons (pe_cmpR op_notN (pv 6) pe_non (nomark _)) (pa_cons (pe_cmpR op_notN (pv 7) pe_non (nomark _)) pa_nil)))))
      (pss_one ps_continue)
      pss_nil)
      (C8.pss_cut (ps_if (PW.pt (pw_and (pt_truth (pv 3) (by intro _; rfl)) (pw_and1 (pt_cmpR op_eq (pe_ix (r := rIxT K) ix_tup (pe_ix (r := rIxL K) ix_list (pv 3) (pe_un un_neg pe_int) (fun _ _ => rfl)) pe_int (fun _ _ => rfl)) (pv 4) (nomark _)))))
      (pss_one (ps_set (i := 4) sc__combined_spans.nd rfl (Or.inl rfl) (pe_ix (r := rIxT K) ix_tup (pe_bm0 PySem.F.plainAttrs_list PySem.F.slot_list_pop PySem.F.type_list_pop mt_pop (pv 3)) pe_int (fun _ _ => rfl))))
      pss_nil)
      (pss_one (ps_expr (pe_bm PySem.F.plainAttrs_list PySem.F.slot_list_append PySem.F.type_list_append mt_append (pv 3) (pa_cons (pe_tup (pa_cons (pv 4) (pa_cons (pv 5) pa_nil))) pa_nil)))))))
      (pss_one (ps_ret (pe_callTy call_tuple_of (by rfl) T.tuple (by decide +kernel) (pa_cons (pv 3) pa_nil)))))), ?_⟩
    refine ⟨len_line (by show 0 ≤ 100000; decide), fun D hD => ?_⟩
    have npD : H D = none := hD
    have inv0 := LcInv.start (K := K) sU hD
    have s0 : Same H (upd H D (.lst [])) := same_upd hD
    have eD0 : (upd H D (.lst [])) D = _ := upd_same
    generalize upd H D (.lst []) = H1 at inv0 s0 eD0 ⊢
    refine ⟨_, rfl, _, rfl, Span, Prod.fst, Prod.snd, spanD, a, b, pa, pb, xa, xb, U, rfl, row_span, sU.trans s0, hSa, hXa, hSb, hXb, Ra, Rb, hln, he0, fun vp U2 H2 es x2 hel hep hem dvp => ?_⟩
    obtain ⟨pp, ps, rfl, hpp, hps⟩ := dp_list dvp
    have lps : ps.length = (segs es).length := by rw [dpall_len hps, List.length_map]
    -- the view of the loop: U2, in which D is not
    have hD2 : U2 D = none := x2.keepOut (none_of_same sU hD) (by rw [eD0]; exact fun z => by cases z)
    have lsg : (segs es).length < 1000 := by rw [segs_len]; omega
    have xb : Ext U H U2 H2 := ⟨x2.vv, x2.vh, s0.trans x2.hh, fun a h => by
      rcases x2.nw a h with z | z
      · exact .inl z
      · exact .inr (s0.free z)⟩
    refine ⟨pp, rfl, ⟨_, x2.vh.seq hpp⟩, for_list (K := K) (a := pp) (xs := ps) (fun i σ H' => ∃ (v4 v5 v6 v7 : Option V) (V' : Hp) (zs : List V), σ = [some (.ref pa), some (.ref pb), some (.ref f), some (.ref D), v4, v5, v6, v7] ∧ Ext U H V' H' ∧ Same U2 V' ∧ V' D = none ∧ H' D = some (.lst zs) ∧ DpAll K V' zs ((merge spC spJ (keptS op a b ((segs es).take i))).map spanD)) ?_ ?_ ?_ ?_⟩
    · exact ⟨_, _, _, _, U2, [], rfl, xb, Same.refl _, hD2, x2.hh _ _ eD0, .nil⟩
    · rintro i σ H' _ ⟨_, _, _, _, V', zs, _, x, sv, _⟩
      exact x.vh.seq (sv.seq hpp)
    · rintro i x σ H3 hx ⟨v4, v5, v6, v7, V3, zs, rfl, x3, sv3, hV3, hz, dz⟩
      obtain ⟨d, hd, dv⟩ := dpall_get hps hx
      rw [List.getElem?_map] at hd
      obtain ⟨⟨bg, en⟩, hsg, rfl⟩ := Option.map_eq_some_iff.mp hd
      obtain ⟨pt, ws, rfl, qt, rt⟩ := dp_tuple dv
      cases rt with | cons r1 rt => cases rt with | cons r2 rt => cases rt with | cons r3 rt => cases rt with | cons r4 rt =>
      cases rt; cases r1; cases r2
      rename_i va vb
      have n1 := not_none row_span r3
      have n2 := not_none row_span r4
      refine ⟨pt, _, rfl, x3.vh.sqt (sv3.sqt qt), rfl, _, _, rfl, _, _, rfl, _, _, rfl, _, _, rfl, rfl, ?_⟩
      refine ⟨rfl, _, rfl, rfl, _, rfl, rfl, _, _, rfl, _, rfl, ?_⟩
      rw [n1, n2]
      have hf := filter_snoc (fun s => op (rowAt Prod.fst Prod.snd a s.1).isSome (rowAt Prod.fst Prod.snd b s.1).isSome) hsg
      have hi : i < (segs es).length := (List.getElem?_eq_some_iff.mp hsg).1
      cases hc : op (rowAt Prod.fst Prod.snd a bg).isSome (rowAt Prod.fst Prod.snd b bg).isSome with
      | false =>
        refine if_t rfl ?_
        refine ⟨_, _, _, _, V3, zs, rfl, x3, sv3, hV3, hz, ?_⟩
        have e : keptS op a b ((segs es).take (i + 1)) = keptS op a b ((segs es).take i) := by
          unfold keptS; rw [hf]; dsimp only; rw [hc]; simp
        rw [e]; exact dz
      | true =>
        refine if_f rfl ?_
        have e : merge spC spJ (keptS op a b ((segs es).take (i + 1))) = mstep spC spJ (merge spC spJ (keptS op a b ((segs es).take i))) (bg, en) := by
          rw [← merge_snoc]; unfold keptS; rw [hf]; dsimp only; rw [hc]; simp
        rw [e]
        have lm : (merge spC spJ (keptS op a b ((segs es).take i))).length ≤ 1000 := by
          have h1 := merge_len spC spJ _ (keptS op a b ((segs es).take i)) rfl
          have h2 : (keptS op a b ((segs es).take i)).length ≤ ((segs es).take i).length := List.length_filter_le _ _
          rw [List.length_take] at h2
          omega
        generalize merge spC spJ (keptS op a b ((segs es).take i)) = m at dz lm ⊢
        refine ⟨fun σ' H' => ∃ (bg' : Int) (m' : List Span) (zs' : List V), σ' = [some (.ref pa), some (.ref pb), some (.ref f), some (.ref D), some (.int bg'), some (.int en), some va, some vb] ∧ Ext U H V3 H' ∧ H' D = some (.lst zs') ∧ DpAll K V3 zs' (m'.map spanD) ∧ mstep spC spJ m (bg, en) = m' ++ [(bg', en)] ∧ m'.length ≤ 1000, ?_, ?_⟩
        · rcases last_cases m with rfl | ⟨m0, p0, rfl⟩
          · cases dz
            refine ⟨_, rfl, false, .inl ⟨[], SqL.of hz, rfl⟩, if_f rfl ?_⟩
            exact ⟨bg, [], [], rfl, x3, hz, .nil, rfl, Nat.zero_le _⟩
          · rw [List.map_append] at dz
            obtain ⟨z0, zp, rfl, d0, dp0⟩ := dpall_snoc dz
            obtain ⟨ap, rfl, qp⟩ := dp_span dp0
            have qp3 := x3.vh.sqt qp
            refine ⟨_, rfl, true, .inl ⟨_, SqL.of hz, by simp⟩, if_t rfl ?_⟩
            refine ⟨_, rfl, _, rfl, D, _, _, _, rfl, rfl, SqL.of hz, atI_last _ _, ap, _, _, _, rfl, rfl, qp3, atI_nat (j := 1) rfl, ?_⟩
            refine ⟨_, rfl, rfl, _, rfl, iteEq (fun h => ?_) (fun h => ?_)⟩
            · refine ⟨_, rfl, .inl ⟨rfl, _, SqL.of hz⟩, D, _, .ref ap, rfl, rfl, hz, by simp, ?_⟩
              rw [List.dropLast_concat]
              have x4 := x3.poke (o := .lst z0) npD hV3
              refine ⟨ap, _, _, _, rfl, rfl, x4.vh.sqt qp, atI_nat (j := 0) rfl, ?_⟩
              refine ⟨p0.1, m0, z0, rfl, x4, upd_same, d0, ?_, by rw [List.length_append] at lm; omega⟩
              rw [mstep_last, if_pos (by unfold spC; exact decide_eq_true h)]; rfl
            · refine ⟨bg, m0 ++ [p0], z0 ++ [.ref ap], rfl, x3, hz, by rw [List.map_append]; exact dz, ?_, lm⟩
              rw [mstep_last, if_neg (by unfold spC; rw [decide_eq_false h]; decide)]
        · rintro σ' H4 ⟨bg', m', zs', rfl, x4, hz4, dz4, em, lm'⟩
          rw [em]
          refine ⟨_, rfl, .inl ⟨rfl, _, SqL.of hz4⟩, _, rfl, _, rfl, len_line (by show 2 ≤ 100000; decide), fun p5 h5 => ?_⟩
          have xn := Ext.new (o := .tup [.int bg', .int en]) x4.vh h5
          have x5 := x4.trans xn
          have hV5 := xn.keepOut hV3 (by rw [hz4]; exact fun z => by cases z)
          have hz5 := xn.hh _ _ hz4
          refine ⟨D, _, _, rfl, rfl, hz5, lt_line (by rw [dpall_len dz4, List.length_map]; omega), ?_⟩
          refine ⟨_, _, _, _, _, _, rfl, x5.poke npD hV5, sv3.trans xn.vv, hV5, upd_same, ?_⟩
          rw [List.map_append]
          exact dpall_app (dz4.to xn.vv) (.cons (mk_span (s := (bg', en)) (SqT.of upd_same)) .nil)
    · rintro σ H3 ⟨v4, v5, v6, v7, V3, zs, rfl, x3, sv3, hV3, hz, dz⟩
      rw [lps, List.take_length] at dz
      refine ⟨_, rfl, D, zs, rfl, .inl ⟨SqL.of hz, fun pr hpr => ?_⟩⟩
      have xn := Ext.new (o := .tup zs) x3.vh hpr
      exact q _ _ _ es (x3.trans xn) hep hem (.tup (SqT.of upd_same) (dz.to xn.vv))

def spansOf : Option Band → List Span
  | none => []
  | some b => b.2.2
def sp__spans_of (K : PySem.W.Frag) : Sp := fun vs H Q _ => ∃ (v : V) (o : Option Band) (U : Hp), vs = [v] ∧ Same U H ∧ Dp K U v (oD bandD o) ∧ ∀ p xs U' H', Ext U H U' H' → SqT K U' p xs → DpAll K U' xs ((spansOf o).map spanD) → Q (.ref p) H'
theorem sc__spans_of : FnScope ["band"] ["band"] (defScope s__spans_of) := ⟨rfl, rfl, rfl, by decide +kernel, rfl, by decide +kernel, by decide +kernel⟩
theorem ok__spans_of (T : Txt K mg A) : FnOk P w K mg base CX0 1 A.f_spans_of A.d_spans_of ["band"] (sp__spans_of K) := by
  refine T.F_spans_of.ok sc__spans_of (fun vs H Q E h => ?_) (fun cdv Ar outer s H vs Q E hr h => ?_)
  · obtain ⟨_, _, _, rfl, _⟩ := h
    rfl
  · obtain ⟨v, o, U, rfl, sU, dv, q⟩ := h
    refine ⟨_, (pss_one (ps_ret (pe_ifExp (pt_cmpR op_isN (pv 0) pe_non (nomark _)) (pe_tup pa_nil) (pe_ix (r := rIxT K) ix_tup (pv 0) pe_int (fun _ _ => rfl))))), ?_⟩
    cases o with
    | none =>
      cases dv
      refine ⟨_, rfl, rfl, _, rfl, if_t rfl ?_⟩
      refine ⟨len_line (by show 0 ≤ 100000; decide), fun p hp => q p [] _ _ (Ext.new sU hp) (SqT.of upd_same) .nil⟩
    | some b =>
      obtain ⟨a, p, ss, rfl, h1, h2, h3⟩ := dp_band dv
      refine ⟨_, rfl, rfl, _, rfl, if_f rfl ?_⟩
      refine ⟨_, rfl, a, _, _, _, rfl, rfl, sU.sqt h1, atI_nat (j := 2) rfl, ?_⟩
      exact q p ss U H (Ext.refl sU) h2 h3
/-! ### bands that touch become one; the three operations -/
theorem eqv_span (s t : Span) : PyData.eqv (spanD s) (spanD t) = decide (s = t) := by
  obtain ⟨a, b⟩ := s
  obtain ⟨c, d⟩ := t
  show PyData.eqv (.tuple [.int a, .int b]) (.tuple [.int c, .int d]) = _
  simp only [PyData.eqv, PyData.eqvAll, Bool.and_true]
  by_cases h1 : a = c
  · by_cases h2 : b = d
    · subst h1; subst h2; simp
    · simp [h2]
  · simp [h1]
theorem eqvAll_spans : ∀ s t : List Span, PyData.eqvAll (s.map spanD) (t.map spanD) = decide (s = t)
  | [], [] => by simp [PyData.eqvAll]
  | [], _ :: _ => by simp [PyData.eqvAll]
  | _ :: _, [] => by simp [PyData.eqvAll]
  | a :: s, b :: t => by
    simp only [List.map_cons, PyData.eqvAll]
    rw [eqv_span, eqvAll_spans s t]
    by_cases h1 : a = b
    · subst h1; by_cases h2 : s = t <;> simp [h2]
    · simp [h1]
theorem eqv_spans (s t : List Span) : PyData.eqv (spansD s) (spansD t) = decide (s = t) := by
  unfold spansD
  rw [show PyData.eqv (.tuple (s.map spanD)) (.tuple (t.map spanD)) = PyData.eqvAll (s.map spanD) (t.map spanD) from by simp only [PyData.eqv]]
  exact eqvAll_spans s t
def bdC (p q : Band) : Bool := decide (p.2.1 = q.1) && decide (p.2.2 = q.2.2)
def bdJ (p q : Band) : Band := (p.1, q.2.1, q.2.2)
def joinM (bs : List Band) : List Band := merge bdC bdJ (bs.filter fun b => !b.2.2.isEmpty)
def sp__joined (K : PySem.W.Frag) : Sp := fun vs H Q _ => ∃ (bs : List Band) (v : V) (U : Hp), vs = [v] ∧ Same U H ∧ Dp K U v (regD bs) ∧ bs.length ≤ 20000 ∧ ∀ v' U' H', Ext U H U' H' → Dp K U' v' (regD (joinM bs)) → Q v' H'
theorem sc__joined : FnScope ["bands", "region", "top", "bottom", "spans"] ["bands"] (defScope s__joined) := ⟨rfl, rfl, rfl, by decide +kernel, rfl, by decide +kernel, by decide +kernel⟩
theorem ok__joined (T : Txt K mg A) : FnOk P w K mg base CX0 1 A.f_joined A.d_joined ["bands"] (sp__joined K) := by
  refine T.F_joined.ok sc__joined (fun vs H Q E h => ?_) (fun cdv Ar outer s H vs Q E hr h => ?_)
  · obtain ⟨_, _, _, rfl, _⟩ := h
    rfl
  · obtain ⟨bs, v, U, rfl, sU, dv, hln, q⟩ := h
    obtain ⟨pb, xs, rfl, hpb, hxs⟩ := dp_list dv
    have lxs : xs.length = bs.length := by rw [dpall_len hxs, List.length_map]
    refine ⟨_, (pss_cons (ps_set (i := 1) sc__joined.nd rfl (Or.inl rfl) (pe_lst pa_nil))
      (pss_cons (ps_for PassesOwn.never rfl (pi_list (pv 0)) (pg_tup rfl (pgs_cons (pg_name (i := 2) sc__joined.nd rfl (Or.inl rfl)) (pgs_cons (pg_name (i := 3) sc__joined.nd rfl (Or.inl rfl)) (pgs_cons (pg_name (i := 4) sc__joined.nd rfl (Or.inl rfl)) pgs_nil))))
      (pss_cons (ps_if (pt_not (pt_truth (pv 4) (by intro _; rfl)))
      (pss_one ps_continue)
      pss_nil)
      (C8.pss_cut (ps_if (PW.pt (pw_and (pt_truth (pv 1) (by intro _; rfl)) (pw_and (pt_cmpR op_eq (pe_ix (r := rIxT K) ix_tup (pe_ix (r := rIxL K) ix_list (pv 1) (pe_un un_neg pe_int) (fun _ _ => rfl)) pe_int (fun _ _ => rfl)) (pv 2) (nomark _)) (pw_and1 (pt_cmpR (op_eqD hr.units) (pe_ix (r := rIxT K) ix_tup (pe_ix (r := rIxL K) ix_list (pv 1) (pe_un un_neg pe_int) (fun _ _ => rfl)) pe_int (fun _ _ => rfl)) (pv 4) (nomark _))))))
      (pss_one (ps_set (i := 2) sc__joined.nd rfl (Or.inl rfl) (pe_ix (r := rIxT K) ix_tup (pe_bm0 PySem.F.plainAttrs_list PySem.F.slot_list_pop PySem.F.type_list_pop mt_pop (pv 1)) pe_int (fun _ _ => rfl))))
      pss_nil)
      (pss_one (ps_expr (pe_bm PySem.F.plainAttrs_list PySem.F.slot_list_append PySem.F.type_list_append mt_append (pv 1) (pa_cons (pe_tup (pa_cons (pv 2) (pa_cons (pv 3) (pa_cons (pv 4) pa_nil)))) pa_nil)))))))
      (pss_one (ps_ret (pv 1))))), ?_⟩
    refine ⟨len_line (by show 0 ≤ 100000; decide), fun D hD => ?_⟩
    have npD : H D = none := hD
    have hUD : U D = none := none_of_same sU hD
    refine ⟨_, rfl, pb, rfl, ⟨_, (same_upd hD).seq (sU.seq hpb)⟩, for_list (K := K) (a := pb) (xs := xs) (fun i σ H' => ∃ (v2 v3 v4 : Option V) (V' : Hp) (zs : List V), σ = [some (.ref pb), some (.ref D), v2, v3, v4] ∧ Ext U H V' H' ∧ V' D = none ∧ H' D = some (.lst zs) ∧ DpAll K V' zs ((merge bdC bdJ ((bs.take i).filter fun b => !b.2.2.isEmpty)).map bandD)) ?_ ?_ ?_ ?_⟩
    · exact ⟨_, _, _, U, [], rfl, Ext.skip sU hD, hUD, upd_same, .nil⟩
    · rintro i σ H' _ ⟨_, _, _, V', zs, _, x, _⟩
      exact x.vh.seq (x.vv.seq hpb)
    · rintro i x σ H3 hx ⟨v2, v3, v4, V3, zs, rfl, x3, hV3, hz, dz⟩
      obtain ⟨d, hd, dv⟩ := dpall_get hxs hx
      rw [List.getElem?_map] at hd
      obtain ⟨⟨tp, bt, ss⟩, hb, rfl⟩ := Option.map_eq_some_iff.mp hd
      obtain ⟨pt, p2, ws, rfl, qt, q2, r2⟩ := dp_band dv
      have qt3 := x3.vh.sqt (x3.vv.sqt qt)
      have q23 := x3.vh.sqt (x3.vv.sqt q2)
      have lws : ws.isEmpty = ss.isEmpty := by
        have := dpall_len r2
        rw [List.length_map] at this
        cases ws <;> cases ss <;> first | rfl | (simp at this)
      refine ⟨pt, _, rfl, qt3, rfl, _, _, rfl, _, _, rfl, _, _, rfl, rfl, ?_⟩
      refine ⟨_, rfl, _, .inr (.inl ⟨ws, q23, rfl⟩), ?_⟩
      rw [lws]
      have hf := filter_snoc (fun b : Band => !b.2.2.isEmpty) hb
      have hi : i < bs.length := (List.getElem?_eq_some_iff.mp hb).1
      cases hc : ss.isEmpty with
      | true =>
        refine if_t rfl ?_
        refine ⟨_, _, _, V3, zs, rfl, x3, hV3, hz, ?_⟩
        rw [hf]; dsimp only; rw [hc]; simpa using dz
      | false =>
        refine if_f rfl ?_
        have e : merge bdC bdJ ((bs.take (i + 1)).filter fun b => !b.2.2.isEmpty) = mstep bdC bdJ (merge bdC bdJ ((bs.take i).filter fun b => !b.2.2.isEmpty)) (tp, bt, ss) := by
          rw [← merge_snoc, hf]; dsimp only; rw [hc]; simp
        rw [e]
        have lm : (merge bdC bdJ ((bs.take i).filter fun b => !b.2.2.isEmpty)).length ≤ 20000 := by
          have h1 := merge_len bdC bdJ _ ((bs.take i).filter fun b => !b.2.2.isEmpty) rfl
          have h2 : ((bs.take i).filter fun b => !b.2.2.isEmpty).length ≤ (bs.take i).length := List.length_filter_le _ _
          rw [List.length_take] at h2
          omega
        generalize merge bdC bdJ ((bs.take i).filter fun b => !b.2.2.isEmpty) = m at dz lm ⊢
        refine ⟨fun σ' H' => ∃ (tp' : Int) (m' : List Band) (zs' : List V), σ' = [some (.ref pb), some (.ref D), some (.int tp'), some (.int bt), some (.ref p2)] ∧ Ext U H V3 H' ∧ H' D = some (.lst zs') ∧ DpAll K V3 zs' (m'.map bandD) ∧ mstep bdC bdJ m (tp, bt, ss) = m' ++ [(tp', bt, ss)] ∧ m'.length ≤ 20000, ?_, ?_⟩
        · rcases last_cases m with rfl | ⟨m0, p0, rfl⟩
          · cases dz
            refine ⟨_, rfl, false, .inl ⟨[], SqL.of hz, rfl⟩, if_f rfl ?_⟩
            exact ⟨tp, [], [], rfl, x3, hz, .nil, rfl, Nat.zero_le _⟩
          · rw [List.map_append] at dz
            obtain ⟨z0, zp, rfl, d0, dp0⟩ := dpall_snoc dz
            obtain ⟨ap, pp0, ss0, rfl, qp, qq, rr⟩ := dp_band dp0
            have qp3 := x3.vh.sqt qp
            have same : ∀ h : ¬ (p0.2.1 = tp ∧ p0.2.2 = ss), ∃ (tp' : Int) (m' : List Band) (zs' : List V), [some (V.ref pb), some (V.ref D), some (V.int tp), some (V.int bt), some (V.ref p2)] = [some (V.ref pb), some (V.ref D), some (V.int tp'), some (V.int bt), some (V.ref p2)] ∧ Ext U H V3 H3 ∧ H3 D = some (.lst zs') ∧ DpAll K V3 zs' (m'.map bandD) ∧ mstep bdC bdJ (m0 ++ [p0]) (tp, bt, ss) = m' ++ [(tp', bt, ss)] ∧ m'.length ≤ 20000 := fun h => by
              refine ⟨tp, m0 ++ [p0], z0 ++ [.ref ap], rfl, x3, hz, by rw [List.map_append]; exact dz, ?_, lm⟩
              rw [mstep_last, if_neg]
              unfold bdC
              intro c
              rw [Bool.and_eq_true, decide_eq_true_eq, decide_eq_true_eq] at c
              exact h c
            refine ⟨_, rfl, true, .inl ⟨_, SqL.of hz, by simp⟩, if_t rfl ?_⟩
            refine ⟨_, rfl, _, rfl, D, _, _, _, rfl, rfl, SqL.of hz, atI_last _ _, ap, _, _, _, rfl, rfl, qp3, atI_nat (j := 1) rfl, ?_⟩
            refine ⟨_, rfl, rfl, _, rfl, iteEq (fun h => ?_) (fun h => ?_)⟩
            · refine ⟨_, rfl, _, rfl, D, _, _, _, rfl, rfl, SqL.of hz, atI_last _ _, ap, _, _, _, rfl, rfl, qp3, atI_nat (j := 2) rfl, ?_⟩
              have ds0 : Dp K H3 (.ref pp0) (spansD p0.2.2) := (Dp.tup qq rr : Dp K V3 (.ref pp0) (spansD p0.2.2)).to x3.vh
              have ds1 : Dp K H3 (.ref p2) (spansD ss) := ((Dp.tup q2 r2 : Dp K U (.ref p2) (spansD ss)).to x3.vv).to x3.vh
              refine ⟨_, rfl, _, _, ds0, ds1, (sh_spans _).shaped, (sh_spans _).shaped, _, rfl, ?_⟩
              rw [eqv_spans]
              refine iteP (fun h2 => ?_) (fun h2 => ?_)
              · refine ⟨_, rfl, .inl ⟨rfl, _, SqL.of hz⟩, D, _, .ref ap, rfl, rfl, hz, by simp, ?_⟩
                rw [List.dropLast_concat]
                have x4 := x3.poke (o := .lst z0) npD hV3
                refine ⟨ap, _, _, _, rfl, rfl, x4.vh.sqt qp, atI_nat (j := 0) rfl, ?_⟩
                refine ⟨p0.1, m0, z0, rfl, x4, upd_same, d0, ?_, by rw [List.length_append] at lm; omega⟩
                rw [mstep_last, if_pos (by unfold bdC; rw [decide_eq_true h, decide_eq_true h2]; rfl)]; rfl
              · exact same fun c => h2 c.2
            · exact same fun c => h c.1
        · rintro σ' H4 ⟨tp', m', zs', rfl, x4, hz4, dz4, em, lm'⟩
          rw [em]
          refine ⟨_, rfl, .inl ⟨rfl, _, SqL.of hz4⟩, _, rfl, _, rfl, _, rfl, len_line (by show 3 ≤ 100000; decide), fun p5 h5 => ?_⟩
          have xn := Ext.new (o := .tup [.int tp', .int bt, .ref p2]) x4.vh h5
          have hV5 := xn.keepOut hV3 (by rw [hz4]; exact fun z => by cases z)
          have hz5 := xn.hh _ _ hz4
          refine ⟨D, _, _, rfl, rfl, hz5, lt_line (by rw [dpall_len dz4, List.length_map]; omega), ?_⟩
          refine ⟨_, _, _, _, _, rfl, (x4.trans xn).poke npD hV5, hV5, upd_same, ?_⟩
          rw [List.map_append]
          have sv := x3.vv.trans xn.vv
          exact dpall_app (dz4.to xn.vv) (.cons (mk_band (b := (tp', bt, ss)) (SqT.of upd_same) (sv.sqt q2) (r2.to sv)) .nil)
    · rintro σ H3 ⟨v2, v3, v4, V3, zs, rfl, x3, hV3, hz, dz⟩
      rw [lxs, List.take_length] at dz
      refine ⟨_, rfl, ?_⟩
      exact q _ _ _ (x3.take npD hV3 hz) (.lst (SqL.of upd_same) (dz.to (same_upd hV3)))
/-! ### the edges as a function; two regions together -/
def insE (x : Int) : List Int → List Int
  | [] => [x]
  | y :: t => if x < y then x :: y :: t else if x = y then y :: t else y :: insE x t
def esOf (L : List Int) : List Int := L.foldr insE []
theorem insE_mem (x : Int) : ∀ (l : List Int) (k : Int), k ∈ insE x l ↔ k = x ∨ k ∈ l
  | [], k => by simp [insE]
  | y :: t, k => by
    unfold insE
    by_cases h1 : x < y
    · rw [if_pos h1]; simp
    · rw [if_neg h1]
      by_cases h2 : x = y
      · rw [if_pos h2]; subst h2; simp
      · rw [if_neg h2, List.mem_cons, insE_mem x t k, List.mem_cons]
        constructor
        · rintro (h | h | h)
          · exact .inr (.inl h)
          · exact .inl h
          · exact .inr (.inr h)
        · rintro (h | h | h)
          · exact .inr (.inl h)
          · exact .inl h
          · exact .inr (.inr h)
theorem insE_pw (x : Int) : ∀ (l : List Int), l.Pairwise (· < ·) → (insE x l).Pairwise (· < ·)
  | [], _ => List.pairwise_singleton _ _
  | y :: t, h => by
    have h' := List.pairwise_cons.mp h
    unfold insE
    by_cases h1 : x < y
    · rw [if_pos h1]
      refine List.pairwise_cons.mpr ⟨fun z hz => ?_, h⟩
      rcases List.mem_cons.mp hz with rfl | hz
      · exact h1
      · exact Int.lt_trans h1 (h'.1 z hz)
    · rw [if_neg h1]
      by_cases h2 : x = y
      · rw [if_pos h2]; exact h
      · rw [if_neg h2]
        refine List.pairwise_cons.mpr ⟨fun z hz => ?_, insE_pw x t h'.2⟩
        rcases (insE_mem x t z).mp hz with rfl | hz
        · omega
        · exact h'.1 z hz
theorem esOf_mem (L : List Int) (k : Int) : k ∈ esOf L ↔ k ∈ L := by
  unfold esOf
  induction L with
  | nil => exact Iff.rfl
  | cons x t ih => rw [List.foldr_cons, insE_mem, ih, List.mem_cons]
theorem esOf_pw (L : List Int) : (esOf L).Pairwise (· < ·) := by
  unfold esOf
  induction L with
  | nil => exact .nil
  | cons x t ih => exact insE_pw x _ ih
theorem sorted_eq : ∀ {a b : List Int}, a.Pairwise (· < ·) → b.Pairwise (· < ·) → (∀ k, k ∈ a ↔ k ∈ b) → a = b
  | [], [], _, _, _ => rfl
  | [], y :: t, _, _, h => by have := (h y).mpr List.mem_cons_self; cases this
  | x :: s, [], _, _, h => by have := (h x).mp List.mem_cons_self; cases this
  | x :: s, y :: t, ha, hb, h => by
    have ha' := List.pairwise_cons.mp ha
    have hb' := List.pairwise_cons.mp hb
    have e : x = y := by
      have h1 := (h x).mp List.mem_cons_self
      have h2 := (h y).mpr List.mem_cons_self
      rcases List.mem_cons.mp h1 with h1 | h1
      · exact h1
      · rcases List.mem_cons.mp h2 with h2 | h2
        · exact h2.symm
        · have g1 := hb'.1 x h1
          have g2 := ha'.1 y h2
          omega
    subst e
    rw [sorted_eq ha'.2 hb'.2 fun k => ?_]
    have hk := h k
    constructor
    · intro hs
      have g := ha'.1 k hs
      rcases List.mem_cons.mp (hk.mp (List.mem_cons_of_mem _ hs)) with e | e
      · omega
      · exact e
    · intro hs
      have g := hb'.1 k hs
      rcases List.mem_cons.mp (hk.mpr (List.mem_cons_of_mem _ hs)) with e | e
      · omega
      · exact e
theorem es_eq {es L : List Int} (h1 : es.Pairwise (· < ·)) (h2 : ∀ k, k ∈ es ↔ k ∈ L) : es = esOf L :=
  sorted_eq h1 (esOf_pw L) fun k => by rw [h2, esOf_mem]
def cmbS (op : Bool → Bool → Bool) (a b : List Span) : List Span := combS op a b (esOf (edgeL Prod.fst Prod.snd a b))
abbrev bLo (b : Band) : Int := b.1
abbrev bHi (b : Band) : Int := b.2.1
def cmbB (op : Bool → Bool → Bool) (A B : List Band) (s : Int × Int) : Band := (s.1, s.2, cmbS op (spansOf (rowAt bLo bHi A s.1)) (spansOf (rowAt bLo bHi B s.1)))
def cmbR (op : Bool → Bool → Bool) (A B : List Band) : List Band := joinM ((segs (esOf (edgeL bLo bHi A B))).map (cmbB op A B))
structure RegOk (R : List Band) : Prop where
  rows : Rows bLo bHi R
  sps : ∀ b ∈ R, Rows Prod.fst Prod.snd b.2.2
  few : R.length < 100
  fews : ∀ b ∈ R, b.2.2.length < 200
  gaps : ∀ b ∈ R, b.2.2.Pairwise fun s t => s.2 < t.1
/-- two regions whose edges are few, taken together -/
def Pair (A B : List Band) : Prop := (∃ e0 : List Int, (∀ k, k ∈ edgeL bLo bHi A B → k ∈ e0) ∧ e0.length < 400) ∧
  ∀ p, ∃ e0 : List Int, (∀ k, k ∈ edgeL Prod.fst Prod.snd (spansOf (rowAt bLo bHi A p)) (spansOf (rowAt bLo bHi B p)) → k ∈ e0) ∧ e0.length < 400
theorem RegOk.at_ {R : List Band} (h : RegOk R) (p : Int) : Rows Prod.fst Prod.snd (spansOf (rowAt bLo bHi R p)) ∧ (spansOf (rowAt bLo bHi R p)).length < 200 := by
  cases e : rowAt bLo bHi R p with
  | none => exact ⟨⟨fun q hq => (by cases hq), List.Pairwise.nil⟩, by show 0 < 200; decide⟩
  | some b =>
    have hb : b ∈ R := List.mem_of_find?_eq_some e
    exact ⟨h.sps b hb, h.fews b hb⟩
def sp__combined (A : Adr) (K : PySem.W.Frag) : Sp := fun vs H Q _ => ∃ (op : Bool → Bool → Bool) (Ra Rb : List Band) (va vb : V) (f : Addr) (U : Hp), vs = [va, vb, .ref f] ∧ KeepAt A f op ∧ Same U H ∧ Dp K U va (regD Ra) ∧ Dp K U vb (regD Rb) ∧ RegOk Ra ∧ RegOk Rb ∧ Pair Ra Rb ∧
  ∀ v U' H', Ext U H U' H' → Dp K U' v (regD (cmbR op Ra Rb)) → Q v H'
theorem sc__combined : FnScope ["a", "b", "keeps", "top", "bottom", "first", "second"] ["a", "b", "keeps"] (defScope s__combined) := ⟨rfl, rfl, rfl, by decide +kernel, rfl, by decide +kernel, by decide +kernel⟩
theorem ok__combined (T : Txt K mg A) : FnOk P w K mg base CX0 4 A.f_combined A.d_combined ["a", "b", "keeps"] (sp__combined A K) := by
  refine T.F_combined.ok sc__combined (fun vs H Q E h => ?_) (fun cdv Ar outer s H vs Q E hr h => ?_)
  · obtain ⟨_, _, _, _, _, _, _, rfl, _⟩ := h
    rfl
  · obtain ⟨op, Ra, Rb, va, vb, f, U, rfl, hk, sU, da, db, oa, ob, pr, q⟩ := h
    obtain ⟨pa, xa, rfl, hpa, hxa⟩ := dp_list da
    obtain ⟨pb, xb, rfl, hpb, hxb⟩ := dp_list db
    refine ⟨_, (pss_one (ps_ret (pe_call (ok__joined T) (hr.mono (by decide)) rfl T.g_joined T.k_joined T.b_joined .nil pass0 (pa_cons (pe_lc (own := [("top", 3), ("bottom", 4), ("first", 5), ("second", 6)]) (g := (gTup K 4 (gCons (gName 3) (gCons (gName 4) (gCons (gName 5) (gCons (gName 6) gNil)))))) (tt := tYes) rfl sc__combined.nd (pi_list (pe_call (ok__pieces_L T) (hr.mono (by decide)) rfl T.g_pieces T.k_pieces T.b_pieces .nil pass0 (pa_cons (pv 0) (pa_cons (pv 1) pa_nil)))) (blkOk_by (own := [("top", 3), ("bottom", 4), ("first", 5), ("second", 6)]) (N := ["a", "b", "keeps", "top", "bottom", "first", "second"]) (sc := defScope s__combined) (by decide +kernel)) (fun _ _ _ _ _ => by exact (pg_tup rfl (pgs_cons (pg_name (i := 3) sc__combined.nd rfl (Or.inl rfl)) (pgs_cons (pg_name (i := 4) sc__combined.nd rfl (Or.inl rfl)) (pgs_cons (pg_name (i := 5) sc__combined.nd rfl (Or.inl rfl)) (pgs_cons (pg_name (i := 6) sc__combined.nd rfl (Or.inl rfl)) pgs_nil)))))) (fun _ _ _ _ _ => pts_nil) (fun _ _ _ _ _ => by exact (pe_tup (pa_cons (pv 3) (pa_cons (pv 4) (pa_cons (pe_call (ok__combined_spans T) (hr.mono (by decide)) rfl T.g_combined_spans T.k_combined_spans T.b_combined_spans .nil pass0 (pa_cons (pe_call (ok__spans_of T) (hr.mono (by decide)) rfl T.g_spans_of T.k_spans_of T.b_spans_of .nil pass0 (pa_cons (pv 5) pa_nil)) (pa_cons (pe_call (ok__spans_of T) (hr.mono (by decide)) rfl T.g_spans_of T.k_spans_of T.b_spans_of .nil pass0 (pa_cons (pv 6) pa_nil)) (pa_cons (pv 2) pa_nil)))) pa_nil)))))) pa_nil)))), ?_⟩
    refine ⟨_, rfl, _, rfl, Band, bLo, bHi, bandD, Ra, Rb, pa, pb, xa, xb, U, rfl, row_band, sU, hpa, hxa, hpb, hxb, oa.rows, ob.rows, by have := oa.few; have := ob.few; omega, pr.1, fun vp U2 H2 es x2 hel hep hem dvp => ?_⟩
    obtain ⟨pp, ps, rfl, hpp, hps⟩ := dp_list dvp
    have lps : ps.length = (segs es).length := by rw [dpall_len hps, List.length_map]
    have lsg : (segs es).length < 400 := by rw [segs_len]; omega
    refine ⟨pp, rfl, ⟨_, x2.vh.seq hpp⟩, fun D hD => ?_⟩
    refine lc_dp (walk_list (K := K) (a := pp) (xs := ps)) (K := K) (V0 := U2) (H0 := H2) (fun i => ((segs es)[i]?).map fun s => bandD (cmbB op Ra Rb s)) _ rfl x2.vh hD (by omega) (fun H' s => s.seq (x2.vh.seq hpp)) (fun i x H H' y => y.1) ?_ ?_
    · rintro j v V3 H3 hj x3 ⟨_, hv⟩ Qy Qn hy _
      obtain ⟨d, hd, dv⟩ := dpall_get hps hv
      rw [List.getElem?_map] at hd
      obtain ⟨⟨tp, bt⟩, hsg, rfl⟩ := Option.map_eq_some_iff.mp hd
      obtain ⟨pt, ws, rfl, qt, rt⟩ := dp_tuple dv
      cases rt with | cons r1 rt => cases rt with | cons r2 rt => cases rt with | cons r3 rt => cases rt with | cons r4 rt =>
      cases rt; cases r1; cases r2
      rename_i v1 v2
      refine ⟨pt, _, rfl, x3.hh.sqt (x2.vh.sqt qt), rfl, _, _, rfl, _, _, rfl, _, _, rfl, _, _, rfl, rfl, rfl, ?_⟩
      refine ⟨_, rfl, _, rfl, _, rfl, v1, rowAt bLo bHi Ra tp, V3, rfl, x3.vh, r3.to x3.vv, fun p1 y1 V4 H4 x4 s4 d4 => ?_⟩
      refine ⟨_, rfl, v2, rowAt bLo bHi Rb tp, V4, rfl, x4.vh, (r4.to x3.vv).to x4.vv, fun p2 y2 V5 H5 x5 s5 d5 => ?_⟩
      have ka := oa.at_ tp
      have kb := ob.at_ tp
      refine ⟨_, rfl, op, spansOf (rowAt bLo bHi Ra tp), spansOf (rowAt bLo bHi Rb tp), p1, p2, f, y1, y2, V5, rfl, hk, x5.vh, x5.vv.sqt s4, d4.to x5.vv, s5, d5, ka.1, kb.1, by omega, pr.2 tp, fun v6 V6 H6 es6 x6 hp6 hm6 d6 => ?_⟩
      have e6 := es_eq hp6 hm6
      subst e6
      refine ⟨len_line (by show 3 ≤ 100000; decide), fun p7 h7 => ?_⟩
      have x7 := (x4.trans x5).trans (x6.trans (Ext.new (o := .tup [.int tp, .int bt, v6]) x6.vh h7))
      obtain ⟨p6, z6, rfl, q6, w6⟩ := dp_tuple d6
      have sn := same_upd (o := .tup [.int tp, .int bt, .ref p6]) (none_of_same x6.vh h7)
      exact hy (bandD (cmbB op Ra Rb (tp, bt))) _ _ _ (by rw [hsg]; rfl) x7 (mk_band (b := cmbB op Ra Rb (tp, bt)) (SqT.of upd_same) (sn.sqt q6) (w6.to sn))
    · rintro U7 H7 zs x7 _ _ d7
      rw [lps, fm_map] at d7
      have e0 := es_eq hep hem
      subst e0
      refine ⟨(segs (esOf (edgeL bLo bHi Ra Rb))).map (cmbB op Ra Rb), _, U7, rfl, x7.vh, by unfold regD; rw [List.map_map]; exact d7, by rw [List.length_map]; omega, fun v8 U8 H8 x8 d8 => ?_⟩
      exact q _ _ _ ((x2.trans x7).trans x8) d8
/-! ### the squares of two regions together -/
theorem any_filter' {α : Type} (p c : α → Bool) : ∀ l : List α, (l.filter p).any c = l.any fun z => p z && c z
  | [] => rfl
  | a :: t => by
    by_cases h : p a = true
    · rw [List.filter_cons_of_pos h, List.any_cons, List.any_cons, any_filter' p c t, h, Bool.true_and]
    · rw [List.filter_cons_of_neg h, List.any_cons, any_filter' p c t]
      rw [Bool.not_eq_true] at h
      rw [h, Bool.false_and, Bool.false_or]
theorem seg_any {es : List Int} {x : Int} {g : Int → Bool} {W : Bool} (h1 : ∀ s ∈ segs es, s.1 ≤ x → x < s.2 → g s.1 = W) (h2 : (∀ s ∈ segs es, ¬ (s.1 ≤ x ∧ x < s.2)) → W = false) :
    (segs es).any (fun s => decide (s.1 ≤ x ∧ x < s.2) && g s.1) = W := by
  by_cases c : ∃ s ∈ segs es, s.1 ≤ x ∧ x < s.2
  · obtain ⟨s, hs, c1, c2⟩ := c
    cases hW : W with
    | true => exact List.any_eq_true.mpr ⟨s, hs, by rw [decide_eq_true ⟨c1, c2⟩, h1 s hs c1 c2, hW]; rfl⟩
    | false =>
      refine List.any_eq_false.mpr fun t ht => ?_
      by_cases d : t.1 ≤ x ∧ x < t.2
      · rw [decide_eq_true d, h1 t ht d.1 d.2, hW]; decide
      · rw [decide_eq_false d]; simp
  · have c' : ∀ s ∈ segs es, ¬ (s.1 ≤ x ∧ x < s.2) := fun s hs z => c ⟨s, hs, z⟩
    rw [h2 c']
    refine List.any_eq_false.mpr fun t ht => ?_
    rw [decide_eq_false (c' t ht)]; simp
theorem isSome_row {r : Type} {lo hi : r → Int} (rows : List r) (x : Int) : (rowAt lo hi rows x).isSome = rows.any fun q => decide (lo q ≤ x ∧ x < hi q) := by
  unfold rowAt
  induction rows with
  | nil => rfl
  | cons q t ih =>
    rw [List.find?_cons, List.any_cons]
    cases decide (lo q ≤ x ∧ x < hi q) with
    | true => rfl
    | false => simpa using ih
theorem edge_in {r : Type} {lo hi : r → Int} {Aa Bb : List r} : (∀ q ∈ Aa, lo q ∈ esOf (edgeL lo hi Aa Bb) ∧ hi q ∈ esOf (edgeL lo hi Aa Bb)) ∧ (∀ q ∈ Bb, lo q ∈ esOf (edgeL lo hi Aa Bb) ∧ hi q ∈ esOf (edgeL lo hi Aa Bb)) := by
  simp only [esOf_mem]
  unfold edgeL
  refine ⟨fun q hq => ⟨?_, ?_⟩, fun q hq => ⟨?_, ?_⟩⟩
  · exact List.mem_append_left _ (List.mem_append_left _ (List.mem_append_left _ (List.mem_map_of_mem hq)))
  · exact List.mem_append_left _ (List.mem_append_left _ (List.mem_append_right _ (List.mem_map_of_mem hq)))
  · exact List.mem_append_left _ (List.mem_append_right _ (List.mem_map_of_mem hq))
  · exact List.mem_append_right _ (List.mem_map_of_mem hq)
theorem segs_pw : ∀ {es : List Int}, es.Pairwise (· < ·) → (segs es).Pairwise fun s t => s.2 ≤ t.1
  | [], _ => List.Pairwise.nil
  | [a], _ => List.Pairwise.nil
  | a :: c :: t, hp => by
    rw [segs_cons]
    have hp2 := List.pairwise_cons.mp hp
    refine List.pairwise_cons.mpr ⟨fun s hs => ?_, segs_pw hp2.2⟩
    obtain ⟨_, _, m, _⟩ := seg_mem hp2.2 (b := s.1) (e := s.2) hs
    rcases List.mem_cons.mp m with e | e
    · rw [e]; exact Int.le_refl _
    · exact Int.le_of_lt ((List.pairwise_cons.mp hp2.2).1 _ e)
theorem segs_rows {es : List Int} (hp : es.Pairwise (· < ·)) : Rows (r := Int × Int) Prod.fst Prod.snd (segs es) := ⟨fun s hs => (seg_mem hp (b := s.1) (e := s.2) hs).1, segs_pw hp⟩
theorem Rows.filter {r : Type} {lo hi : r → Int} {l : List r} (R : Rows lo hi l) (p : r → Bool) : Rows lo hi (l.filter p) := ⟨fun q hq => R.pos q ((List.mem_filter.mp hq).1), R.ord.filter p⟩
theorem cmbS_rows (op : Bool → Bool → Bool) (a b : List Span) : Rows Prod.fst Prod.snd (cmbS op a b) ∧ ∀ z ∈ cmbS op a b, z.1 ∈ edgeL Prod.fst Prod.snd a b ∧ z.2 ∈ edgeL Prod.fst Prod.snd a b := by
  have hp := esOf_pw (edgeL Prod.fst Prod.snd a b)
  have R : Rows (r := Span) Prod.fst Prod.snd (keptS op a b (segs (esOf (edgeL Prod.fst Prod.snd a b)))) := (segs_rows hp).filter _
  obtain ⟨h1, h2⟩ := merge_rows spC spJ (lo := Prod.fst) (hi := Prod.snd) (fun _ _ => rfl) (fun _ _ => rfl) _ _ rfl R
  refine ⟨h1, fun z hz => ?_⟩
  obtain ⟨p, hp1, q, hq1, e1, e2⟩ := h2 z hz
  have m1 := seg_mem hp (b := p.1) (e := p.2) ((List.mem_filter.mp hp1).1)
  have m2 := seg_mem hp (b := q.1) (e := q.2) ((List.mem_filter.mp hq1).1)
  exact ⟨by rw [e1]; exact (esOf_mem _ _).mp m1.2.2.1, by rw [e2]; exact (esOf_mem _ _).mp m2.2.2.2⟩
theorem cmbS_in (op : Bool → Bool → Bool) (h0 : op false false = false) (a b : List Span) (x : Int) : inS (cmbS op a b) x = op (inS a x) (inS b x) := by
  have hp := esOf_pw (edgeL Prod.fst Prod.snd a b)
  have he := edge_in (lo := Prod.fst) (hi := Prod.snd) (Aa := a) (Bb := b)
  have ha : inS a x = (rowAt Prod.fst Prod.snd a x).isSome := (isSome_row a x).symm
  have hb : inS b x = (rowAt Prod.fst Prod.snd b x).isSome := (isSome_row b x).symm
  have R : Rows (r := Span) Prod.fst Prod.snd (keptS op a b (segs (esOf (edgeL Prod.fst Prod.snd a b)))) := (segs_rows hp).filter _
  have m := (merge_any spC spJ (fun s : Span => decide (s.1 ≤ x ∧ x < s.2)) (fun s => s.1 < s.2) (fun p q hp hq hc => by
    have hc' : p.2 = q.1 := of_decide_eq_true hc
    refine ⟨by show p.1 < q.2; omega, ?_⟩
    show decide (p.1 ≤ x ∧ x < q.2) = (decide (p.1 ≤ x ∧ x < p.2) || decide (q.1 ≤ x ∧ x < q.2))
    rw [← Bool.decide_or]
    congr 1
    refine propext ⟨fun h => ?_, fun h => ?_⟩ <;> omega) _ _ rfl R.pos).2
  show (merge spC spJ _).any _ = _
  rw [m]
  unfold keptS
  rw [any_filter', ha, hb]
  rw [show (fun z : Int × Int => (op (rowAt Prod.fst Prod.snd a z.1).isSome (rowAt Prod.fst Prod.snd b z.1).isSome && decide (z.1 ≤ x ∧ x < z.2))) = fun z => decide (z.1 ≤ x ∧ x < z.2) && op (rowAt Prod.fst Prod.snd a z.1).isSome (rowAt Prod.fst Prod.snd b z.1).isSome from funext fun z => Bool.and_comm _ _]
  refine seg_any (g := fun p => op (rowAt Prod.fst Prod.snd a p).isSome (rowAt Prod.fst Prod.snd b p).isSome) (fun s hs c1 c2 => ?_) fun c => ?_
  · show op _ _ = _
    rw [rowAt_seg hp he.1 hs c1 c2, rowAt_seg hp he.2 hs c1 c2]
  · rw [rowAt_off hp he.1 c, rowAt_off hp he.2 c]; exact h0
theorem hasSq_row (R : List Band) (x y : Int) : hasSq R x y = inS (spansOf (rowAt bLo bHi R y)) x := by
  unfold rowAt
  induction R with
  | nil => rfl
  | cons b t ih =>
    rw [List.find?_cons]
    unfold hasSq
    by_cases c : b.1 ≤ y ∧ y < b.2.1
    · rw [if_pos c, decide_eq_true (show bLo b ≤ y ∧ y < bHi b from c)]; rfl
    · rw [if_neg c, decide_eq_false (show ¬ (bLo b ≤ y ∧ y < bHi b) from c)]; exact ih
def covB (x y : Int) (b : Band) : Bool := decide (b.1 ≤ y ∧ y < b.2.1) && inS b.2.2 x
theorem hasSq_any {R : List Band} (h : Rows bLo bHi R) (x y : Int) : hasSq R x y = R.any (covB x y) := by
  induction R with
  | nil => rfl
  | cons b t ih =>
    have ht : Rows bLo bHi t := ⟨fun q hq => h.pos q (List.mem_cons_of_mem _ hq), (List.pairwise_cons.mp h.ord).2⟩
    rw [List.any_cons]
    unfold hasSq
    by_cases c : b.1 ≤ y ∧ y < b.2.1
    · rw [if_pos c]
      have off : t.any (covB x y) = false := by
        refine List.any_eq_false.mpr fun q hq => ?_
        have o : b.2.1 ≤ q.1 := (List.pairwise_cons.mp h.ord).1 q hq
        unfold covB
        rw [decide_eq_false (fun z => by omega)]; simp
      rw [off, Bool.or_false]
      unfold covB
      rw [decide_eq_true c, Bool.true_and]; rfl
    · rw [if_neg c, ih ht]
      unfold covB
      rw [decide_eq_false c, Bool.false_and, Bool.false_or]
theorem merge_pay {e β : Type} (cond : e → e → Bool) (join : e → e → e) (f : e → β) (hf : ∀ p q, f (join p q) = f q) : ∀ (n : Nat) (qs : List e), qs.length = n → ∀ z ∈ merge cond join qs, ∃ q ∈ qs, f z = f q
  | 0, qs, h => by cases List.eq_nil_of_length_eq_zero h; intro z hz; cases hz
  | n + 1, qs, h => by
    rcases last_cases qs with rfl | ⟨a, q, rfl⟩
    · cases h
    have ih := merge_pay cond join f hf n a (by simpa using h)
    rw [merge_snoc]
    generalize merge cond join a = m at ih
    have mq : q ∈ a ++ [q] := List.mem_append_right _ List.mem_cons_self
    intro z hz
    rcases last_cases m with rfl | ⟨b, p, rfl⟩
    · cases List.mem_singleton.mp hz; exact ⟨q, mq, rfl⟩
    rw [mstep_last] at hz
    split at hz
    · rcases List.mem_append.mp hz with hz | hz
      · obtain ⟨q', h1, h2⟩ := ih z (List.mem_append_left _ hz)
        exact ⟨q', List.mem_append_left _ h1, h2⟩
      · cases List.mem_singleton.mp hz; exact ⟨q, mq, hf p q⟩
    · rcases List.mem_append.mp hz with hz | hz
      · obtain ⟨q', h1, h2⟩ := ih z hz
        exact ⟨q', List.mem_append_left _ h1, h2⟩
      · cases List.mem_singleton.mp hz; exact ⟨q, mq, rfl⟩
theorem cmbB_rows (op : Bool → Bool → Bool) (A B : List Band) : Rows bLo bHi ((segs (esOf (edgeL bLo bHi A B))).map (cmbB op A B)) := by
  have R := segs_rows (esOf_pw (edgeL bLo bHi A B))
  refine ⟨fun q hq => ?_, List.pairwise_map.mpr R.ord⟩
  obtain ⟨s, hs, rfl⟩ := List.mem_map.mp hq
  exact R.pos s hs
theorem cmbR_rows (op : Bool → Bool → Bool) (A B : List Band) : Rows bLo bHi (cmbR op A B) ∧ (∀ z ∈ cmbR op A B, (z.1 ∈ edgeL bLo bHi A B ∧ z.2.1 ∈ edgeL bLo bHi A B) ∧ ∃ p, z.2.2 = cmbS op (spansOf (rowAt bLo bHi A p)) (spansOf (rowAt bLo bHi B p))) := by
  have hp := esOf_pw (edgeL bLo bHi A B)
  have R := (cmbB_rows op A B).filter fun b => !b.2.2.isEmpty
  obtain ⟨h1, h2⟩ := merge_rows bdC bdJ (lo := bLo) (hi := bHi) (fun _ _ => rfl) (fun _ _ => rfl) _ _ rfl R
  have mem : ∀ q ∈ ((segs (esOf (edgeL bLo bHi A B))).map (cmbB op A B)).filter (fun b => !b.2.2.isEmpty), ∃ s ∈ segs (esOf (edgeL bLo bHi A B)), q = cmbB op A B s := fun q hq => by
    obtain ⟨s, hs, e⟩ := List.mem_map.mp ((List.mem_filter.mp hq).1)
    exact ⟨s, hs, e.symm⟩
  refine ⟨h1, fun z hz => ⟨?_, ?_⟩⟩
  · obtain ⟨p, hp1, q, hq1, e1, e2⟩ := h2 z hz
    obtain ⟨s, hs, rfl⟩ := mem p hp1
    obtain ⟨t, ht, rfl⟩ := mem q hq1
    have m1 := seg_mem hp (b := s.1) (e := s.2) hs
    have m2 := seg_mem hp (b := t.1) (e := t.2) ht
    refine ⟨?_, ?_⟩
    · show bLo z ∈ _; rw [e1]; exact (esOf_mem _ _).mp m1.2.2.1
    · show bHi z ∈ _; rw [e2]; exact (esOf_mem _ _).mp m2.2.2.2
  · obtain ⟨q, hq, e⟩ := merge_pay bdC bdJ (fun b : Band => b.2.2) (fun _ _ => rfl) _ _ rfl z hz
    obtain ⟨s, hs, rfl⟩ := mem q hq
    exact ⟨s.1, e⟩
theorem cmbR_sq (op : Bool → Bool → Bool) (h0 : op false false = false) (A B : List Band) (x y : Int) : hasSq (cmbR op A B) x y = op (hasSq A x y) (hasSq B x y) := by
  have hp := esOf_pw (edgeL bLo bHi A B)
  have he := edge_in (lo := bLo) (hi := bHi) (Aa := A) (Bb := B)
  rw [hasSq_any (cmbR_rows op A B).1, hasSq_row A, hasSq_row B]
  have R := (cmbB_rows op A B).filter fun b => !b.2.2.isEmpty
  have m := (merge_any bdC bdJ (covB x y) (fun b => b.1 < b.2.1) (fun p q hp hq hc => by
    unfold bdC at hc
    rw [Bool.and_eq_true, decide_eq_true_eq, decide_eq_true_eq] at hc
    refine ⟨by show p.1 < q.2.1; omega, ?_⟩
    show (decide (p.1 ≤ y ∧ y < q.2.1) && inS q.2.2 x) = ((decide (p.1 ≤ y ∧ y < p.2.1) && inS p.2.2 x) || (decide (q.1 ≤ y ∧ y < q.2.1) && inS q.2.2 x))
    rw [hc.2, ← Bool.and_or_distrib_right, ← Bool.decide_or]
    congr 2
    refine propext ⟨fun h => ?_, fun h => ?_⟩ <;> omega) _ _ rfl R.pos).2
  show (merge bdC bdJ _).any _ = _
  rw [m, any_filter', List.any_map]
  have e : ((fun z : Band => !z.2.2.isEmpty && covB x y z) ∘ cmbB op A B) = fun s : Int × Int => decide (s.1 ≤ y ∧ y < s.2) && op (inS (spansOf (rowAt bLo bHi A s.1)) x) (inS (spansOf (rowAt bLo bHi B s.1)) x) := by
    funext s
    show (!(cmbB op A B s).2.2.isEmpty && (decide (s.1 ≤ y ∧ y < s.2) && inS (cmbB op A B s).2.2 x)) = _
    have ei : inS (cmbB op A B s).2.2 x = op (inS (spansOf (rowAt bLo bHi A s.1)) x) (inS (spansOf (rowAt bLo bHi B s.1)) x) := cmbS_in op h0 _ _ x
    rw [← ei]
    generalize (cmbB op A B s).2.2 = l
    cases l with
    | nil => simp [inS]
    | cons a t => rfl
  rw [e]
  refine seg_any (g := fun p => op (inS (spansOf (rowAt bLo bHi A p)) x) (inS (spansOf (rowAt bLo bHi B p)) x)) (fun s hs c1 c2 => ?_) fun c => ?_
  · show op _ _ = _
    rw [rowAt_seg hp he.1 hs c1 c2, rowAt_seg hp he.2 hs c1 c2]
  · rw [rowAt_off hp he.1 c, rowAt_off hp he.2 c]; exact h0
/-! ### what merging leaves does not touch -/
def Ch {e : Type} (cond : e → e → Bool) (l : List e) : Prop := ∀ (i : Nat) (p q : e), l[i]? = some p → l[i + 1]? = some q → cond p q = false
theorem Ch.snoc {e : Type} {cond : e → e → Bool} {m : List e} {q : e} (h : Ch cond m) (hl : ∀ a p, m = a ++ [p] → cond p q = false) : Ch cond (m ++ [q]) := by
  intro i p z hp hz
  by_cases c : i + 1 < m.length
  · rw [List.getElem?_append_left (by omega)] at hp
    rw [List.getElem?_append_left c] at hz
    exact h i p z hp hz
  · have hb : i + 1 < (m ++ [q]).length := (List.getElem?_eq_some_iff.mp hz).1
    rw [List.length_append] at hb
    have hb' : i + 1 < m.length + 1 := hb
    have e1 : i + 1 = m.length := by omega
    rw [e1, List.getElem?_append_right (Nat.le_refl _), Nat.sub_self] at hz
    cases hz
    rcases last_cases m with rfl | ⟨a, p', rfl⟩
    · simp at e1
    · rw [List.length_append] at e1
      have e2 : i = a.length := by simpa using e1
      rw [List.getElem?_append_left (by rw [List.length_append]; simp; omega), e2, List.getElem?_append_right (Nat.le_refl _), Nat.sub_self] at hp
      cases hp
      exact hl a _ rfl
theorem Ch.init {e : Type} {cond : e → e → Bool} {m : List e} {q : e} (h : Ch cond (m ++ [q])) : Ch cond m ∧ ∀ a p, m = a ++ [p] → cond p q = false := by
  refine ⟨fun i p z hp hz => ?_, fun a p e => ?_⟩
  · have h1 := (List.getElem?_eq_some_iff.mp hp).1
    have h2 := (List.getElem?_eq_some_iff.mp hz).1
    exact h i p z (by rw [List.getElem?_append_left h1]; exact hp) (by rw [List.getElem?_append_left h2]; exact hz)
  · subst e
    refine h a.length p q ?_ ?_
    · rw [List.getElem?_append_left (by rw [List.length_append]; simp), List.getElem?_append_right (Nat.le_refl _), Nat.sub_self]; rfl
    · rw [List.getElem?_append_right (by rw [List.length_append]; simp)]
      simp
theorem merge_chain {e : Type} (cond : e → e → Bool) (join : e → e → e) (hc : ∀ r p q, cond p q = true → cond r (join p q) = cond r p) :
    ∀ (n : Nat) (qs : List e), qs.length = n → Ch cond (merge cond join qs)
  | 0, qs, h => by cases List.eq_nil_of_length_eq_zero h; intro i p q hp; cases hp
  | n + 1, qs, h => by
    rcases last_cases qs with rfl | ⟨a, q, rfl⟩
    · cases h
    have ih := merge_chain cond join hc n a (by simpa using h)
    rw [merge_snoc]
    generalize merge cond join a = m at ih
    rcases last_cases m with rfl | ⟨b, p, rfl⟩
    · intro i p z hp hz
      have this : i + 1 < 1 := (List.getElem?_eq_some_iff.mp hz).1
      omega
    rw [mstep_last]
    obtain ⟨i1, i2⟩ := ih.init
    by_cases c : cond p q = true
    · rw [if_pos c]
      exact i1.snoc fun x y e => by rw [hc y p q c]; exact i2 x y e
    · rw [if_neg c]
      refine ih.snoc fun x y e => ?_
      have e2 := congrArg List.getLast? e
      simp at e2
      subst e2
      simpa using c
theorem cmbS_chain (op : Bool → Bool → Bool) (a b : List Span) : Ch spC (cmbS op a b) :=
  merge_chain spC spJ (fun _ _ _ _ => rfl) _ _ rfl
theorem cmbR_chain (op : Bool → Bool → Bool) (A B : List Band) : Ch bdC (cmbR op A B) :=
  merge_chain bdC bdJ (fun r p q h => by
    unfold bdC at h ⊢
    rw [Bool.and_eq_true, decide_eq_true_eq, decide_eq_true_eq] at h
    show (decide (r.2.1 = p.1) && decide (r.2.2 = q.2.2)) = (decide (r.2.1 = p.1) && decide (r.2.2 = p.2.2))
    rw [h.2]) _ _ rfl
theorem gap {l : List Span} (R : Rows Prod.fst Prod.snd l) (h : Ch spC l) : l.Pairwise fun s t => s.2 < t.1 := by
  have ord := List.pairwise_iff_getElem.mp R.ord
  refine List.pairwise_iff_getElem.mpr fun i j hi hj hij => ?_
  have hi1 : i + 1 < l.length := by omega
  have o1 : l[i].2 ≤ l[i + 1].1 := ord i (i + 1) hi hi1 (by omega)
  have c : spC l[i] l[i + 1] = false := h i _ _ (List.getElem?_eq_getElem hi) (List.getElem?_eq_getElem hi1)
  have c' : ¬ l[i].2 = l[i + 1].1 := of_decide_eq_false c
  by_cases e : i + 1 = j
  · subst e; omega
  · have o2 : l[i + 1].2 ≤ l[j].1 := ord (i + 1) j hi1 hj (by omega)
    have p : l[i + 1].1 < l[i + 1].2 := R.pos _ (List.getElem_mem hi1)
    omega
/-! ### the one form is one: the same squares, the same region -/
structure Gap (l : List Span) : Prop where
  pos : ∀ s ∈ l, s.1 < s.2
  gap : l.Pairwise fun s t => s.2 < t.1
theorem Gap.tail {s : Span} {l : List Span} (h : Gap (s :: l)) : Gap l := ⟨fun q hq => h.pos q (List.mem_cons_of_mem _ hq), (List.pairwise_cons.mp h.gap).2⟩
theorem inS_ex {l : List Span} {x : Int} : inS l x = true ↔ ∃ s ∈ l, s.1 ≤ x ∧ x < s.2 := by
  unfold inS
  rw [List.any_eq_true]
  exact exists_congr fun s => and_congr_right fun _ => decide_eq_true_iff
theorem Gap.first {s : Span} {l : List Span} (h : Gap (s :: l)) {x : Int} (hx : inS (s :: l) x = true) : s.1 ≤ x := by
  obtain ⟨q, hq, h1, _⟩ := inS_ex.mp hx
  rcases List.mem_cons.mp hq with rfl | hq
  · exact h1
  · have := (List.pairwise_cons.mp h.gap).1 q hq
    have := h.pos s List.mem_cons_self
    omega
theorem Gap.end_ {s : Span} {l : List Span} (h : Gap (s :: l)) : inS (s :: l) s.2 = false := by
  rw [← Bool.not_eq_true]
  intro hx
  obtain ⟨q, hq, h1, h2⟩ := inS_ex.mp hx
  rcases List.mem_cons.mp hq with rfl | hq
  · omega
  · have := (List.pairwise_cons.mp h.gap).1 q hq
    omega
theorem Gap.in_ {s : Span} {l : List Span} {x : Int} (h1 : s.1 ≤ x) (h2 : x < s.2) : inS (s :: l) x = true := inS_ex.mpr ⟨s, List.mem_cons_self, h1, h2⟩
theorem Gap.rest {s : Span} {l : List Span} (h : Gap (s :: l)) (x : Int) : inS l x = (inS (s :: l) x && decide (s.2 ≤ x)) := by
  by_cases c : s.2 ≤ x
  · rw [decide_eq_true c, Bool.and_true]
    show _ = (decide (s.1 ≤ x ∧ x < s.2) || inS l x)
    rw [decide_eq_false (fun z => by omega), Bool.false_or]
  · rw [decide_eq_false c, Bool.and_false, ← Bool.not_eq_true]
    intro hx
    obtain ⟨q, hq, h1, _⟩ := inS_ex.mp hx
    have := (List.pairwise_cons.mp h.gap).1 q hq
    omega
theorem spans_eq : ∀ {l m : List Span}, Gap l → Gap m → (∀ x, inS l x = inS m x) → l = m
  | [], [], _, _, _ => rfl
  | [], t :: m, _, hm, e => by
    have := e t.1
    rw [Gap.in_ (Int.le_refl _) (hm.pos t List.mem_cons_self)] at this
    cases this
  | s :: l, [], hl, _, e => by
    have := e s.1
    rw [Gap.in_ (Int.le_refl _) (hl.pos s List.mem_cons_self)] at this
    cases this
  | s :: l, t :: m, hl, hm, e => by
    have ps := hl.pos s List.mem_cons_self
    have pt := hm.pos t List.mem_cons_self
    have a1 : t.1 ≤ s.1 := hm.first (by rw [← e]; exact Gap.in_ (Int.le_refl _) ps)
    have a2 : s.1 ≤ t.1 := hl.first (by rw [e]; exact Gap.in_ (Int.le_refl _) pt)
    have e1 : s.1 = t.1 := by omega
    have e2 : s.2 = t.2 := by
      rcases Int.lt_trichotomy s.2 t.2 with c | c | c
      · have h1 := hl.end_
        rw [e, Gap.in_ (by omega) c] at h1
        cases h1
      · exact c
      · have h1 := hm.end_
        rw [← e, Gap.in_ (by omega) c] at h1
        cases h1
    have est : s = t := Prod.ext e1 e2
    subst est
    rw [spans_eq hl.tail hm.tail fun x => by rw [hl.rest, hm.rest, e]]
/-- the spans of a row -/
def spAt (R : List Band) (y : Int) : List Span := spansOf (rowAt bLo bHi R y)
structure CanU (R : List Band) : Prop where
  rows : Rows bLo bHi R
  gap : ∀ b ∈ R, Gap b.2.2
  ch : Ch bdC R
  ne : ∀ b ∈ R, b.2.2 ≠ []
theorem CanU.tail {b : Band} {R : List Band} (h : CanU (b :: R)) : CanU R :=
  ⟨⟨fun q hq => h.rows.pos q (List.mem_cons_of_mem _ hq), (List.pairwise_cons.mp h.rows.ord).2⟩, fun q hq => h.gap q (List.mem_cons_of_mem _ hq),
    fun i p q hp hq => h.ch (i + 1) p q (by rw [List.getElem?_cons_succ]; exact hp) (by rw [List.getElem?_cons_succ]; exact hq), fun q hq => h.ne q (List.mem_cons_of_mem _ hq)⟩
theorem spAt_cons (b : Band) (R : List Band) (y : Int) : spAt (b :: R) y = if b.1 ≤ y ∧ y < b.2.1 then b.2.2 else spAt R y := by
  unfold spAt rowAt
  rw [List.find?_cons]
  by_cases c : b.1 ≤ y ∧ y < b.2.1
  · rw [if_pos c, decide_eq_true (show bLo b ≤ y ∧ y < bHi b from c)]; rfl
  · rw [if_neg c, decide_eq_false (show ¬ (bLo b ≤ y ∧ y < bHi b) from c)]
theorem spAt_mem {R : List Band} {y : Int} (h : spAt R y ≠ []) : ∃ b ∈ R, b.1 ≤ y ∧ y < b.2.1 ∧ spAt R y = b.2.2 := by
  induction R with
  | nil => exact absurd rfl h
  | cons b t ih =>
    rw [spAt_cons] at h ⊢
    by_cases c : b.1 ≤ y ∧ y < b.2.1
    · exact ⟨b, List.mem_cons_self, c.1, c.2, by rw [if_pos c]⟩
    · rw [if_neg c] at h ⊢
      obtain ⟨q, hq, r⟩ := ih h
      exact ⟨q, List.mem_cons_of_mem _ hq, r⟩
theorem CanU.gapAt {R : List Band} (h : CanU R) (y : Int) : Gap (spAt R y) := by
  by_cases c : spAt R y = []
  · rw [c]; exact ⟨fun s hs => (by cases hs), List.Pairwise.nil⟩
  · obtain ⟨b, hb, _, _, e⟩ := spAt_mem c
    rw [e]; exact h.gap b hb
theorem CanU.first {b : Band} {R : List Band} (h : CanU (b :: R)) {y : Int} (hy : spAt (b :: R) y ≠ []) : b.1 ≤ y := by
  obtain ⟨q, hq, h1, _⟩ := spAt_mem hy
  rcases List.mem_cons.mp hq with rfl | hq
  · exact h1
  · have o : b.2.1 ≤ q.1 := (List.pairwise_cons.mp h.rows.ord).1 q hq
    have p : b.1 < b.2.1 := h.rows.pos b List.mem_cons_self
    omega
theorem CanU.in_ {b : Band} {R : List Band} {y : Int} (h1 : b.1 ≤ y) (h2 : y < b.2.1) : spAt (b :: R) y = b.2.2 := by rw [spAt_cons, if_pos ⟨h1, h2⟩]
/-- behind the last row of a band there are other spans -/
theorem CanU.end_ {b : Band} {R : List Band} (h : CanU (b :: R)) : spAt (b :: R) b.2.1 ≠ b.2.2 := by
  intro e
  have hne : spAt (b :: R) b.2.1 ≠ [] := by rw [e]; exact h.ne b List.mem_cons_self
  obtain ⟨q, hq, h1, h2, e2⟩ := spAt_mem hne
  rcases List.mem_cons.mp hq with rfl | hq
  · omega
  cases R with
  | nil => cases hq
  | cons n t =>
    have o := List.pairwise_cons.mp h.rows.ord
    have on : b.2.1 ≤ n.1 := o.1 n List.mem_cons_self
    have pn : n.1 < n.2.1 := h.rows.pos n (List.mem_cons_of_mem _ List.mem_cons_self)
    have hqn : q = n := by
      rcases List.mem_cons.mp hq with r | hq
      · exact r
      · have o2 : n.2.1 ≤ q.1 := (List.pairwise_cons.mp o.2).1 q hq
        omega
    subst hqn
    have c := h.ch 0 b q rfl rfl
    unfold bdC at c
    rw [decide_eq_true (show b.2.1 = q.1 by omega), Bool.true_and] at c
    exact of_decide_eq_false c (by rw [← e, e2])
theorem CanU.rest {b : Band} {R : List Band} (h : CanU (b :: R)) (y : Int) : spAt R y = if b.2.1 ≤ y then spAt (b :: R) y else [] := by
  by_cases c : b.2.1 ≤ y
  · rw [if_pos c, spAt_cons, if_neg (by omega)]
  · rw [if_neg c]
    by_cases d : spAt R y = []
    · exact d
    · obtain ⟨q, hq, h1, _⟩ := spAt_mem d
      have o : b.2.1 ≤ q.1 := (List.pairwise_cons.mp h.rows.ord).1 q hq
      omega
theorem bands_eq : ∀ {l m : List Band}, CanU l → CanU m → (∀ y, spAt l y = spAt m y) → l = m
  | [], [], _, _, _ => rfl
  | [], t :: m, _, hm, e => by
    have := e t.1
    rw [CanU.in_ (Int.le_refl _) (hm.rows.pos t List.mem_cons_self)] at this
    exact absurd this.symm (hm.ne t List.mem_cons_self)
  | s :: l, [], hl, _, e => by
    have := e s.1
    rw [CanU.in_ (Int.le_refl _) (hl.rows.pos s List.mem_cons_self)] at this
    exact absurd this (hl.ne s List.mem_cons_self)
  | s :: l, t :: m, hl, hm, e => by
    have ps : s.1 < s.2.1 := hl.rows.pos s List.mem_cons_self
    have pt : t.1 < t.2.1 := hm.rows.pos t List.mem_cons_self
    have a1 : t.1 ≤ s.1 := hm.first (by rw [← e, CanU.in_ (Int.le_refl _) ps]; exact hl.ne s List.mem_cons_self)
    have a2 : s.1 ≤ t.1 := hl.first (by rw [e, CanU.in_ (Int.le_refl _) pt]; exact hm.ne t List.mem_cons_self)
    have e1 : s.1 = t.1 := by omega
    have e3 : s.2.2 = t.2.2 := by
      have := e s.1
      rw [CanU.in_ (Int.le_refl _) ps, CanU.in_ (by omega) (by omega)] at this
      exact this
    have e2 : s.2.1 = t.2.1 := by
      rcases Int.lt_trichotomy s.2.1 t.2.1 with c | c | c
      · exact absurd (by rw [e, CanU.in_ (by omega) c, e3]) hl.end_
      · exact c
      · exact absurd (by rw [← e, CanU.in_ (by omega) c, e3]) hm.end_
    have est : s = t := Prod.ext e1 (Prod.ext e2 e3)
    subst est
    rw [bands_eq hl.tail hm.tail fun y => by rw [hl.rest, hm.rest, e]]
/-- the same squares, the same region -/
theorem one_form {A B : List Band} (ha : CanU A) (hb : CanU B) (h : ∀ x y, hasSq A x y = hasSq B x y) : A = B :=
  bands_eq ha hb fun y => spans_eq (ha.gapAt y) (hb.gapAt y) fun x => by
    have := h x y
    rw [hasSq_row, hasSq_row] at this
    exact this
theorem Gap.rows {l : List Span} (h : Gap l) : Rows Prod.fst Prod.snd l := ⟨h.pos, h.gap.imp fun {s t} z => by show s.2 ≤ t.1; omega⟩
theorem cmbR_u (op : Bool → Bool → Bool) (A B : List Band) : CanU (cmbR op A B) := by
  refine ⟨(cmbR_rows op A B).1, fun z hz => ?_, cmbR_chain op A B, fun z hz => ?_⟩
  · obtain ⟨_, p, e⟩ := (cmbR_rows op A B).2 z hz
    rw [e]
    exact ⟨(cmbS_rows op _ _).1.pos, My.gap (cmbS_rows op _ _).1 (cmbS_chain _ _ _)⟩
  · obtain ⟨q, hq, e⟩ := merge_pay bdC bdJ (fun b : Band => b.2.2) (fun _ _ => rfl) _ _ rfl z hz
    have hn := (List.mem_filter.mp hq).2
    have e' : z.2.2 = q.2.2 := e
    rw [e']
    intro h0
    rw [h0] at hn
    exact absurd hn (by decide)
/-! the three operations, and boxes -/
structure Box (R : List Band) : Prop where
  bs : ∀ b ∈ R, -1 ≤ b.1 ∧ b.2.1 ≤ 10 ∧ ∀ s ∈ b.2.2, -1 ≤ s.1 ∧ s.2 ≤ 10
  rows : Rows bLo bHi R
  sps : ∀ b ∈ R, Rows Prod.fst Prod.snd b.2.2
  gaps : ∀ b ∈ R, b.2.2.Pairwise fun s t => s.2 < t.1
theorem rows_few : ∀ {r : Type} {lo hi : r → Int} {l : List r} {c : Int}, Rows lo hi l → c ≤ 10 → (∀ q ∈ l, c ≤ lo q ∧ hi q ≤ 10) → (l.length : Int) ≤ 10 - c
  | _, _, _, [], c, _, hc, _ => by show (0 : Int) ≤ 10 - c; omega
  | _, lo, hi, q :: t, c, R, hc, h => by
    have hq := h q List.mem_cons_self
    have p := R.pos q List.mem_cons_self
    have ih := rows_few (l := t) (c := hi q) ⟨fun z hz => R.pos z (List.mem_cons_of_mem _ hz), (List.pairwise_cons.mp R.ord).2⟩ hq.2 fun z hz => ⟨(List.pairwise_cons.mp R.ord).1 z hz, (h z (List.mem_cons_of_mem _ hz)).2⟩
    rw [List.length_cons]
    omega
theorem Box.ok {R : List Band} (h : Box R) : RegOk R := by
  refine ⟨h.rows, h.sps, ?_, fun b hb => ?_, h.gaps⟩
  · have := rows_few (c := -1) h.rows (by decide) fun q hq => ⟨(h.bs q hq).1, (h.bs q hq).2.1⟩
    omega
  · have := rows_few (c := -1) (h.sps b hb) (by decide) fun q hq => (h.bs b hb).2.2 q hq
    omega
theorem Box.cmb {A B : List Band} (op : Bool → Bool → Bool) (ha : Box A) (hb : Box B) : Box (cmbR op A B) := by
  obtain ⟨h1, h2⟩ := cmbR_rows op A B
  have inE : ∀ {R : List Band}, Box R → ∀ b ∈ R, -1 ≤ bLo b ∧ bLo b ≤ 10 ∧ -1 ≤ bHi b ∧ bHi b ≤ 10 := fun hR b hb => by
    have := hR.bs b hb
    have := hR.rows.pos b hb
    have e1 : bLo b = b.1 := rfl
    have e2 : bHi b = b.2.1 := rfl
    omega
  have sp : ∀ {R : List Band}, Box R → ∀ p, ∀ s ∈ spansOf (rowAt bLo bHi R p), -1 ≤ s.1 ∧ s.1 ≤ 10 ∧ -1 ≤ s.2 ∧ s.2 ≤ 10 := fun {R} hR p s hs => by
    cases e : rowAt bLo bHi R p with
    | none => rw [e] at hs; cases hs
    | some b =>
      rw [e] at hs
      have hb : b ∈ R := List.mem_of_find?_eq_some e
      have g := (hR.bs b hb).2.2 s hs
      have g2 := (hR.sps b hb).pos s hs
      omega
  have ed : ∀ k ∈ edgeL bLo bHi A B, -1 ≤ k ∧ k ≤ 10 := fun k hk => by
    unfold edgeL at hk
    simp only [List.mem_append, List.mem_map] at hk
    rcases hk with ((⟨b, h, rfl⟩ | ⟨b, h, rfl⟩) | ⟨b, h, rfl⟩) | ⟨b, h, rfl⟩
    · have := inE ha b h; omega
    · have := inE ha b h; omega
    · have := inE hb b h; omega
    · have := inE hb b h; omega
  refine ⟨fun z hz => ?_, h1, fun z hz => ?_, fun z hz => ((cmbR_u op A B).gap z hz).gap⟩
  · obtain ⟨⟨e1, e2⟩, p, ep⟩ := h2 z hz
    refine ⟨(ed _ e1).1, (ed _ e2).2, fun s hs => ?_⟩
    rw [ep] at hs
    obtain ⟨m1, m2⟩ := (cmbS_rows op _ _).2 s hs
    have es : ∀ k ∈ edgeL Prod.fst Prod.snd (spansOf (rowAt bLo bHi A p)) (spansOf (rowAt bLo bHi B p)), -1 ≤ k ∧ k ≤ 10 := fun k hk => by
      unfold edgeL at hk
      simp only [List.mem_append, List.mem_map] at hk
      rcases hk with ((⟨b, h, rfl⟩ | ⟨b, h, rfl⟩) | ⟨b, h, rfl⟩) | ⟨b, h, rfl⟩
      · have := sp ha p b h; omega
      · have := sp ha p b h; omega
      · have := sp hb p b h; omega
      · have := sp hb p b h; omega
    exact ⟨(es _ m1).1, (es _ m2).2⟩
  · obtain ⟨_, p, ep⟩ := h2 z hz
    rw [ep]
    exact (cmbS_rows op _ _).1
theorem Box.nil : Box [] := ⟨fun b hb => (by cases hb), ⟨fun q hq => (by cases hq), List.Pairwise.nil⟩, fun b hb => (by cases hb), fun b hb => (by cases hb)⟩
theorem Box.rect {x y wd ht : Int} (hx : -1 ≤ x ∧ x + wd ≤ 10) (hy : -1 ≤ y ∧ y + ht ≤ 10) : Box (rectReg x y wd ht) := by
  unfold rectReg
  split
  · exact Box.nil
  · rename_i h
    refine ⟨fun b hb => ?_, ⟨fun q hq => ?_, List.pairwise_singleton _ _⟩, fun b hb => ?_, fun b hb => ?_⟩
    · cases List.mem_singleton.mp hb
      exact ⟨hy.1, hy.2, fun s hs => by cases List.mem_singleton.mp hs; exact hx⟩
    · cases List.mem_singleton.mp hq
      show y < y + ht; omega
    · cases List.mem_singleton.mp hb
      exact ⟨fun q hq => by cases List.mem_singleton.mp hq; show x < x + wd; omega, List.pairwise_singleton _ _⟩
    · cases List.mem_singleton.mp hb
      exact List.pairwise_singleton _ _
theorem Box.edge {A B : List Band} (ha : Box A) (hb : Box B) : (∀ k ∈ edgeL bLo bHi A B, -1 ≤ k ∧ k ≤ 10) ∧ ∀ p, ∀ k ∈ edgeL Prod.fst Prod.snd (spansOf (rowAt bLo bHi A p)) (spansOf (rowAt bLo bHi B p)), -1 ≤ k ∧ k ≤ 10 := by
  have inE : ∀ {R : List Band}, Box R → ∀ b ∈ R, -1 ≤ bLo b ∧ bLo b ≤ 10 ∧ -1 ≤ bHi b ∧ bHi b ≤ 10 := fun hR b hb => by
    have := hR.bs b hb
    have := hR.rows.pos b hb
    have e1 : bLo b = b.1 := rfl
    have e2 : bHi b = b.2.1 := rfl
    omega
  have sp : ∀ {R : List Band}, Box R → ∀ p, ∀ s ∈ spansOf (rowAt bLo bHi R p), -1 ≤ s.1 ∧ s.1 ≤ 10 ∧ -1 ≤ s.2 ∧ s.2 ≤ 10 := fun {R} hR p s hs => by
    cases e : rowAt bLo bHi R p with
    | none => rw [e] at hs; cases hs
    | some b =>
      rw [e] at hs
      have hb : b ∈ R := List.mem_of_find?_eq_some e
      have g := (hR.bs b hb).2.2 s hs
      have g2 := (hR.sps b hb).pos s hs
      omega
  refine ⟨fun k hk => ?_, fun p k hk => ?_⟩
  · unfold edgeL at hk
    simp only [List.mem_append, List.mem_map] at hk
    rcases hk with ((⟨b, h, rfl⟩ | ⟨b, h, rfl⟩) | ⟨b, h, rfl⟩) | ⟨b, h, rfl⟩
    · have := inE ha b h; omega
    · have := inE ha b h; omega
    · have := inE hb b h; omega
    · have := inE hb b h; omega
  · unfold edgeL at hk
    simp only [List.mem_append, List.mem_map] at hk
    rcases hk with ((⟨b, h, rfl⟩ | ⟨b, h, rfl⟩) | ⟨b, h, rfl⟩) | ⟨b, h, rfl⟩
    · have := sp ha p b h; omega
    · have := sp ha p b h; omega
    · have := sp hb p b h; omega
    · have := sp hb p b h; omega
def sides : List Int := (List.range 12).map fun i : Nat => (i : Int) - 1
theorem sides_len : sides.length < 64 := by unfold sides; rw [List.length_map, List.length_range]; decide
theorem in_sides {k : Int} (h : -1 ≤ k ∧ k ≤ 10) : k ∈ sides := List.mem_map.mpr ⟨(k + 1).toNat, List.mem_range.mpr (by omega), by show (((k + 1).toNat : Nat) : Int) - 1 = k; omega⟩
theorem Box.pair {A B : List Band} (ha : Box A) (hb : Box B) : Pair A B :=
  ⟨⟨sides, fun k hk => in_sides ((ha.edge hb).1 k hk), Nat.lt_trans sides_len (by decide)⟩, fun p => ⟨sides, fun k hk => in_sides ((ha.edge hb).2 p k hk), Nat.lt_trans sides_len (by decide)⟩⟩
def sp_op2 (op : Bool → Bool → Bool) (K : PySem.W.Frag) : Sp := fun vs H Q _ => ∃ (Ra Rb : List Band) (va vb : V) (U : Hp), vs = [va, vb] ∧ Same U H ∧ Dp K U va (regD Ra) ∧ Dp K U vb (regD Rb) ∧ RegOk Ra ∧ RegOk Rb ∧ Pair Ra Rb ∧
  ∀ v U' H', Ext U H U' H' → Dp K U' v (regD (cmbR op Ra Rb)) → Q v H'
theorem sc_united : FnScope ["a", "b"] ["a", "b"] (defScope s_united) := ⟨rfl, rfl, rfl, by decide +kernel, rfl, by decide +kernel, by decide +kernel⟩
theorem sc_without : FnScope ["a", "b"] ["a", "b"] (defScope s_without) := ⟨rfl, rfl, rfl, by decide +kernel, rfl, by decide +kernel, by decide +kernel⟩
theorem ok_united (T : Txt K mg A) : FnOk P w K mg base CX0 5 A.funited A.dunited ["a", "b"] (sp_op2 or K) := by
  refine T.Funited.ok sc_united (fun vs H Q E h => ?_) (fun cdv Ar outer s H vs Q E hr h => ?_)
  · obtain ⟨_, _, _, _, _, rfl, _⟩ := h
    rfl
  · obtain ⟨Ra, Rb, va, vb, U, rfl, sU, da, db, oa, ob, pr, q⟩ := h
    refine ⟨_, (pss_one (ps_ret (pe_call (ok__combined T) (hr.mono (by decide)) rfl T.g_combined T.k_combined T.b_combined .nil pass0 (pa_cons (pv 0) (pa_cons (pv 1) (pa_cons (pe_glob (v := .ref A.f_either) rfl T.g_either rfl) pa_nil)))))), ?_⟩
    exact ⟨_, rfl, _, rfl, or, Ra, Rb, va, vb, A.f_either, U, rfl, .inl ⟨rfl, rfl⟩, sU, da, db, oa, ob, pr, q⟩
theorem ok_without (T : Txt K mg A) : FnOk P w K mg base CX0 5 A.fwithout A.dwithout ["a", "b"] (sp_op2 (fun a b => a && !b) K) := by
  refine T.Fwithout.ok sc_without (fun vs H Q E h => ?_) (fun cdv Ar outer s H vs Q E hr h => ?_)
  · obtain ⟨_, _, _, _, _, rfl, _⟩ := h
    rfl
  · obtain ⟨Ra, Rb, va, vb, U, rfl, sU, da, db, oa, ob, pr, q⟩ := h
    refine ⟨_, (pss_one (ps_ret (pe_call (ok__combined T) (hr.mono (by decide)) rfl T.g_combined T.k_combined T.b_combined .nil pass0 (pa_cons (pv 0) (pa_cons (pv 1) (pa_cons (pe_glob (v := .ref A.f_first_alone) rfl T.g_first_alone rfl) pa_nil)))))), ?_⟩
    exact ⟨_, rfl, _, rfl, (fun a b => a && !b), Ra, Rb, va, vb, A.f_first_alone, U, rfl, .inr ⟨rfl, rfl⟩, sU, da, db, oa, ob, pr, q⟩
/-! ### the squares that both have: one region's rows against those of the other -/
def mxI (i j : Int) : Int := if j > i then j else i
def mnI (i j : Int) : Int := if j < i then j else i
section
variable {r e : Type} (lo hi : r → Int) (mk : r → r → e)
/-- what a row has to do with another one -/
def meets (s t : r) : Bool := decide (lo s < hi t) && decide (lo t < hi s)
def swRow (b : List r) (s : r) : List e := (b.filter (meets lo hi s)).map (mk s)
def sweep (a b : List r) : List e := a.flatMap (swRow lo hi mk b)
variable {lo hi mk}
theorem mem_sweep {a b : List r} {z : e} : z ∈ sweep lo hi mk a b ↔ ∃ s ∈ a, ∃ t ∈ b, (lo s < hi t ∧ lo t < hi s) ∧ mk s t = z := by
  unfold sweep swRow meets
  simp only [List.mem_flatMap, List.mem_map, List.mem_filter, Bool.and_eq_true, decide_eq_true_eq, and_assoc]
theorem sweep_pw {R : e → e → Prop} {a b : List r} (ha : a.Pairwise fun s s' => ∀ t t', R (mk s t) (mk s' t')) (hb : b.Pairwise fun t t' => ∀ s, R (mk s t) (mk s t')) : (sweep lo hi mk a b).Pairwise R := by
  unfold sweep
  refine List.pairwise_flatMap.mpr ⟨fun s _ => List.pairwise_map.mpr ((hb.filter _).imp fun h => h s), ha.imp fun {s s'} h x hx y hy => ?_⟩
  obtain ⟨t, _, rfl⟩ := List.mem_map.mp hx
  obtain ⟨t', _, rfl⟩ := List.mem_map.mp hy
  exact h t t'
theorem sweep_take {a b : List r} {i : Nat} {s : r} (h : a[i]? = some s) : sweep lo hi mk (a.take (i + 1)) b = sweep lo hi mk (a.take i) b ++ swRow lo hi mk b s := fl_take' _ _ _ _ h
/-- ahead of the first row that ends behind the beginning nothing meets -/
theorem meet_none {b : List r} {s : r} {k : Nat} (h : ∀ (j : Nat) (q : r), j < k → b[j]? = some q → hi q ≤ lo s) : (b.take k).filter (meets lo hi s) = [] := by
  refine List.filter_eq_nil_iff.mpr fun q hq => ?_
  obtain ⟨j, hj, e⟩ := List.mem_iff_getElem.mp hq
  rw [List.length_take] at hj
  have h1 := h j q (by omega) (by rw [List.getElem?_eq_getElem (by omega), ← e, List.getElem_take])
  unfold meets
  rw [decide_eq_false (by omega), Bool.false_and]; decide
theorem meet_end {b : List r} (R : Rows lo hi b) {s : r} {k : Nat} (h : ∀ q, b[k]? = some q → hi s ≤ lo q) : (b.take k).filter (meets lo hi s) = b.filter (meets lo hi s) := by
  have e : b.filter (meets lo hi s) = (b.take k).filter (meets lo hi s) ++ (b.drop k).filter (meets lo hi s) := by rw [← List.filter_append, List.take_append_drop]
  rw [e]
  have z : (b.drop k).filter (meets lo hi s) = [] := by
    refine List.filter_eq_nil_iff.mpr fun q hq => ?_
    obtain ⟨j, hj, e⟩ := List.mem_iff_getElem.mp hq
    rw [List.getElem_drop] at e
    rw [List.length_drop] at hj
    have hk : k < b.length := by omega
    have h0 := h _ (List.getElem?_eq_getElem hk)
    have : lo b[k] ≤ lo q := by
      by_cases c : j = 0
      · subst c; rw [← e]; exact Int.le_refl _
      · have o := (List.pairwise_iff_getElem.mp R.ord) k (k + j) hk (by omega) (by omega)
        have p := R.pos _ (List.getElem_mem hk)
        rw [e] at o
        omega
    unfold meets
    rw [decide_eq_false (show ¬ lo q < hi s by omega), Bool.and_false]; decide
  rw [z, List.append_nil]
theorem meet_step {b : List r} {s t : r} {k : Nat} (h : b[k]? = some t) (h1 : lo s < hi t) (h2 : lo t < hi s) : (b.take (k + 1)).filter (meets lo hi s) = (b.take k).filter (meets lo hi s) ++ [t] := by
  rw [filter_snoc _ h, if_pos]
  unfold meets
  rw [decide_eq_true h1, decide_eq_true h2]; rfl
theorem swRow_len (b : List r) (s : r) (k : Nat) : (((b.take k).filter (meets lo hi s)).map (mk s)).length ≤ b.length := by
  rw [List.length_map]
  have h1 : ((b.take k).filter (meets lo hi s)).length ≤ (b.take k).length := List.length_filter_le _ _
  rw [List.length_take] at h1
  omega
theorem sweep_len (a b : List r) : (sweep lo hi mk a b).length ≤ a.length * b.length := by
  unfold sweep
  induction a with
  | nil => exact Nat.zero_le _
  | cons s t ih =>
    rw [List.flatMap_cons, List.length_append, List.length_cons, Nat.succ_mul]
    have h : (swRow lo hi mk b s).length ≤ b.length := by
      have := swRow_len (mk := mk) (lo := lo) (hi := hi) b s b.length
      rwa [List.take_length] at this
    omega
end
def mkS (s t : Span) : Span := (mxI s.1 t.1, mnI s.2 t.2)
def cmnS (a b : List Span) : List Span := sweep Prod.fst Prod.snd mkS a b
def mkB (s t : Band) : Band := (mxI s.1 t.1, mnI s.2.1 t.2.1, cmnS s.2.2 t.2.2)
def cmnR (A B : List Band) : List Band := joinM (sweep bLo bHi mkB A B)
theorem cmnS_gap {a b : List Span} (ha : Gap a) (hb : Gap b) : Gap (cmnS a b) := by
  refine ⟨fun z hz => ?_, sweep_pw (ha.gap.imp fun {s s'} h t t' => ?_) (hb.gap.imp fun {t t'} h s => ?_)⟩
  · obtain ⟨s, hs, t, ht, ⟨h1, h2⟩, rfl⟩ := mem_sweep.mp hz
    have p1 := ha.pos s hs
    have p2 := hb.pos t ht
    show mxI s.1 t.1 < mnI s.2 t.2
    unfold mxI mnI
    split <;> split <;> omega
  · show mnI s.2 t.2 < mxI s'.1 t'.1
    unfold mxI mnI
    split <;> split <;> omega
  · show mnI s.2 t.2 < mxI s.1 t'.1
    unfold mxI mnI
    split <;> split <;> omega
theorem cmnS_in {a b : List Span} (ha : Gap a) (hb : Gap b) (x : Int) : inS (cmnS a b) x = (inS a x && inS b x) := by
  refine Bool.eq_iff_iff.mpr ?_
  rw [Bool.and_eq_true, inS_ex, inS_ex, inS_ex]
  constructor
  · rintro ⟨z, hz, h1, h2⟩
    obtain ⟨s, hs, t, ht, _, rfl⟩ := mem_sweep.mp hz
    have h1' : mxI s.1 t.1 ≤ x := h1
    have h2' : x < mnI s.2 t.2 := h2
    unfold mxI at h1'
    unfold mnI at h2'
    refine ⟨⟨s, hs, ?_⟩, ⟨t, ht, ?_⟩⟩ <;> (split at h1' <;> split at h2' <;> omega)
  · rintro ⟨⟨s, hs, h1, h2⟩, ⟨t, ht, h3, h4⟩⟩
    refine ⟨mkS s t, mem_sweep.mpr ⟨s, hs, t, ht, ⟨by omega, by omega⟩, rfl⟩, ?_, ?_⟩
    · show mxI s.1 t.1 ≤ x
      unfold mxI; split <;> omega
    · show x < mnI s.2 t.2
      unfold mnI; split <;> omega
theorem sweepB_rows {A B : List Band} (ha : Rows bLo bHi A) (hb : Rows bLo bHi B) : Rows bLo bHi (sweep bLo bHi mkB A B) := by
  refine ⟨fun z hz => ?_, sweep_pw (ha.ord.imp fun {s s'} h t t' => ?_) (hb.ord.imp fun {t t'} h s => ?_)⟩
  · obtain ⟨s, hs, t, ht, ⟨h1, h2⟩, rfl⟩ := mem_sweep.mp hz
    have p1 := ha.pos s hs
    have p2 := hb.pos t ht
    show mxI s.1 t.1 < mnI s.2.1 t.2.1
    unfold mxI mnI
    split <;> split <;> omega
  · have h' : s.2.1 ≤ s'.1 := h
    show mnI s.2.1 t.2.1 ≤ mxI s'.1 t'.1
    unfold mxI mnI
    split <;> split <;> omega
  · have h' : t.2.1 ≤ t'.1 := h
    show mnI s.2.1 t.2.1 ≤ mxI s.1 t'.1
    unfold mxI mnI
    split <;> split <;> omega
theorem RegOk.gapB {R : List Band} (h : RegOk R) : ∀ b ∈ R, Gap b.2.2 := fun b hb => ⟨(h.sps b hb).pos, h.gaps b hb⟩
theorem cmnR_u {A B : List Band} (ha : RegOk A) (hb : RegOk B) : CanU (cmnR A B) := by
  have R := (sweepB_rows ha.rows hb.rows).filter fun b => !b.2.2.isEmpty
  obtain ⟨h1, h2⟩ := merge_rows bdC bdJ (lo := bLo) (hi := bHi) (fun _ _ => rfl) (fun _ _ => rfl) _ _ rfl R
  have pay : ∀ z ∈ cmnR A B, ∃ q ∈ (sweep bLo bHi mkB A B).filter (fun b => !b.2.2.isEmpty), z.2.2 = q.2.2 := fun z hz => merge_pay bdC bdJ (fun b : Band => b.2.2) (fun _ _ => rfl) _ _ rfl z hz
  refine ⟨h1, fun z hz => ?_, merge_chain bdC bdJ (fun r p q h => by
    unfold bdC at h ⊢
    rw [Bool.and_eq_true, decide_eq_true_eq, decide_eq_true_eq] at h
    show (decide (r.2.1 = p.1) && decide (r.2.2 = q.2.2)) = (decide (r.2.1 = p.1) && decide (r.2.2 = p.2.2))
    rw [h.2]) _ _ rfl, fun z hz => ?_⟩
  · obtain ⟨q, hq, e⟩ := pay z hz
    obtain ⟨s, hs, t, ht, _, rfl⟩ := mem_sweep.mp (List.mem_filter.mp hq).1
    rw [e]
    exact cmnS_gap (ha.gapB s hs) (hb.gapB t ht)
  · obtain ⟨q, hq, e⟩ := pay z hz
    have hn := (List.mem_filter.mp hq).2
    rw [e]
    intro h0
    rw [h0] at hn
    exact absurd hn (by decide)
theorem cov_ex {R : List Band} (h : Rows bLo bHi R) (x y : Int) : hasSq R x y = true ↔ ∃ b ∈ R, b.1 ≤ y ∧ y < b.2.1 ∧ inS b.2.2 x = true := by
  rw [hasSq_any h, List.any_eq_true]
  unfold covB
  simp only [Bool.and_eq_true, decide_eq_true_eq, and_assoc]
theorem cmnR_sq {A B : List Band} (ha : RegOk A) (hb : RegOk B) (x y : Int) : hasSq (cmnR A B) x y = (hasSq A x y && hasSq B x y) := by
  have R := (sweepB_rows ha.rows hb.rows).filter fun b => !b.2.2.isEmpty
  have m := (merge_any bdC bdJ (covB x y) (fun b => b.1 < b.2.1) (fun p q hp hq hc => by
    unfold bdC at hc
    rw [Bool.and_eq_true, decide_eq_true_eq, decide_eq_true_eq] at hc
    refine ⟨by show p.1 < q.2.1; omega, ?_⟩
    show (decide (p.1 ≤ y ∧ y < q.2.1) && inS q.2.2 x) = ((decide (p.1 ≤ y ∧ y < p.2.1) && inS p.2.2 x) || (decide (q.1 ≤ y ∧ y < q.2.1) && inS q.2.2 x))
    rw [hc.2, ← Bool.and_or_distrib_right, ← Bool.decide_or]
    congr 2
    refine propext ⟨fun h => ?_, fun h => ?_⟩ <;> omega) _ _ rfl R.pos).2
  rw [hasSq_any (cmnR_u ha hb).rows]
  show (merge bdC bdJ _).any _ = _
  rw [m]
  refine Bool.eq_iff_iff.mpr ?_
  rw [Bool.and_eq_true, cov_ex ha.rows, cov_ex hb.rows, List.any_eq_true]
  unfold covB
  simp only [Bool.and_eq_true, decide_eq_true_eq]
  constructor
  · rintro ⟨z, hz, ⟨h1, h2⟩, h3⟩
    obtain ⟨s, hs, t, ht, _, rfl⟩ := mem_sweep.mp (List.mem_filter.mp hz).1
    have h1' : mxI s.1 t.1 ≤ y := h1
    have h2' : y < mnI s.2.1 t.2.1 := h2
    have h3' : inS (cmnS s.2.2 t.2.2) x = true := h3
    rw [cmnS_in (ha.gapB s hs) (hb.gapB t ht), Bool.and_eq_true] at h3'
    unfold mxI at h1'
    unfold mnI at h2'
    refine ⟨⟨s, hs, ?_, ?_, h3'.1⟩, ⟨t, ht, ?_, ?_, h3'.2⟩⟩ <;> (split at h1' <;> split at h2' <;> omega)
  · rintro ⟨⟨s, hs, h1, h2, h5⟩, ⟨t, ht, h3, h4, h6⟩⟩
    have h7 : inS (cmnS s.2.2 t.2.2) x = true := by rw [cmnS_in (ha.gapB s hs) (hb.gapB t ht), h5, h6]; rfl
    refine ⟨mkB s t, List.mem_filter.mpr ⟨mem_sweep.mpr ⟨s, hs, t, ht, ⟨by show s.1 < t.2.1; omega, by show t.1 < s.2.1; omega⟩, rfl⟩, ?_⟩, ⟨?_, ?_⟩, h7⟩
    · show (!(cmnS s.2.2 t.2.2).isEmpty) = true
      cases e : cmnS s.2.2 t.2.2 with
      | nil => rw [e] at h7; cases h7
      | cons _ _ => rfl
    · show mxI s.1 t.1 ≤ y
      unfold mxI; split <;> omega
    · show y < mnI s.2.1 t.2.1
      unfold mnI; split <;> omega
/-- the same region as by pieces -/
theorem cmnR_eq {A B : List Band} (ha : RegOk A) (hb : RegOk B) : cmnR A B = cmbR and A B :=
  one_form (cmnR_u ha hb) (cmbR_u and A B) fun x y => by rw [cmnR_sq ha hb, cmbR_sq and rfl]
theorem Rows.below {r : Type} {lo hi : r → Int} {a : List r} (R : Rows lo hi a) {i : Nat} {s s' : r} (h : a[i]? = some s) (h' : a[i + 1]? = some s') : lo s ≤ lo s' := by
  obtain ⟨g, e⟩ := List.getElem?_eq_some_iff.mp h
  obtain ⟨g', e'⟩ := List.getElem?_eq_some_iff.mp h'
  have o := (List.pairwise_iff_getElem.mp R.ord) i (i + 1) g g' (by omega)
  have p := R.pos _ (List.getElem_mem g)
  rw [e] at o p
  rw [e'] at o
  omega
theorem sweep_few {r e : Type} {lo hi : r → Int} {mk : r → r → e} {a b : List r} (i k : Nat) {s : r} (ha : a.length < 200) (hb : b.length < 200) : (sweep lo hi mk (a.take i) b ++ ((b.take k).filter (meets lo hi s)).map (mk s)).length < 50000 := by
  have h1 := sweep_len (lo := lo) (hi := hi) (mk := mk) (a.take i) b
  have h2 := swRow_len (lo := lo) (hi := hi) (mk := mk) b s k
  have h3 : (a.take i).length ≤ 200 := by rw [List.length_take]; omega
  have h4 : (a.take i).length * b.length ≤ 200 * 200 := Nat.mul_le_mul h3 (by omega)
  rw [List.length_append]
  omega
def sp__common_spans (K : PySem.W.Frag) : Sp := fun vs H Q _ => ∃ (a b : List Span) (pa pb : Addr) (xa xb : List V) (U : Hp), vs = [.ref pa, .ref pb] ∧ Same U H ∧ SqT K U pa xa ∧ DpAll K U xa (a.map spanD) ∧ SqT K U pb xb ∧ DpAll K U xb (b.map spanD) ∧
  Rows Prod.fst Prod.snd a ∧ Rows Prod.fst Prod.snd b ∧ a.length < 200 ∧ b.length < 200 ∧
  ∀ p xs U' H', Ext U H U' H' → SqT K U' p xs → DpAll K U' xs ((cmnS a b).map spanD) → Q (.ref p) H'
theorem sc__common_spans : FnScope ["a", "b", "found", "first", "begin", "end", "at"] ["a", "b"] (defScope s__common_spans) := ⟨rfl, rfl, rfl, by decide +kernel, rfl, by decide +kernel, by decide +kernel⟩
theorem ok__common_spans (T : Txt K mg A) : FnOk P w K mg base CX0 2 A.f_common_spans A.d_common_spans ["a", "b"] (sp__common_spans K) := by
  refine T.F_common_spans.ok sc__common_spans (fun vs H Q E h => ?_) (fun cdv Ar outer s H vs Q E hr h => ?_)
  · obtain ⟨_, _, _, _, _, _, _, rfl, _⟩ := h
    rfl
  · obtain ⟨a, b, pa, pb, xa, xb, U, rfl, sU, hSa, hXa, hSb, hXb, Ra, Rb, hla, hlb, q⟩ := h
    refine ⟨_, (pss_cons (ps_set (i := 2) sc__common_spans.nd rfl (Or.inl rfl) (pe_lst pa_nil))
      (pss_cons (ps_set (i := 3) sc__common_spans.nd rfl (Or.inl rfl) pe_int)
      (pss_cons (ps_for PassesOwn.never rfl (pi_tup (pv 0)) (pg_tup rfl (pgs_cons (pg_name (i := 4) sc__common_spans.nd rfl (Or.inl rfl)) (pgs_cons (pg_name (i := 5) sc__common_spans.nd rfl (Or.inl rfl)) pgs_nil)))
      (pss_cons (ps_set (i := 3) sc__common_spans.nd rfl (Or.inl rfl) (pe_call (ok__first_ending_behind_T T) (hr.mono (by decide)) rfl T.g_first_ending_behind T.k_first_ending_behind T.b_first_ending_behind .nil pass0 (pa_cons (pv 1) (pa_cons (pv 3) (pa_cons (pv 4) pa_nil)))))
      (pss_cons (ps_set (i := 6) sc__common_spans.nd rfl (Or.inl rfl) (pv 3))
      (pss_one (ps_while PassesOwn.never (PW.pt (pw_and (pt_cmpR op_lt (pv 6) (pe_callB call_len_seq (by rfl) T.len PySem.boot_len (pa_cons (pv 1) pa_nil)) (nomark _)) (pw_and1 (pt_cmpR op_lt (pe_ix (r := rIxT K) ix_tup (pe_ix (r := rIxT K) ix_tup (pv 1) (pv 6) (fun _ _ => rfl)) pe_int (fun _ _ => rfl)) (pv 5) (nomark _)))))
      (pss_cons (ps_expr (pe_bm PySem.F.plainAttrs_list PySem.F.slot_list_append PySem.F.type_list_append mt_append (pv 2) (pa_cons (pe_tup (pa_cons (pe_callB (call_max2 rfl) (by rfl) T.max (by decide +kernel) (pa_cons (pv 4) (pa_cons (pe_ix (r := rIxT K) ix_tup (pe_ix (r := rIxT K) ix_tup (pv 1) (pv 6) (fun _ _ => rfl)) pe_int (fun _ _ => rfl)) pa_nil))) (pa_cons (pe_callB (call_min2 rfl) (by rfl) T.min (by decide +kernel) (pa_cons (pv 5) (pa_cons (pe_ix (r := rIxT K) ix_tup (pe_ix (r := rIxT K) ix_tup (pv 1) (pv 6) (fun _ _ => rfl)) pe_int (fun _ _ => rfl)) pa_nil))) pa_nil))) pa_nil)))
      (pss_one (ps_aug (i := 6) sc__common_spans.nd rfl (Or.inl rfl) pe_int ip_add))))))))
      (pss_one (ps_ret (pe_callTy call_tuple_of (by rfl) T.tuple (by decide +kernel) (pa_cons (pv 2) pa_nil))))))), ?_⟩
    refine ⟨len_line (by show 0 ≤ 100000; decide), fun D hD => ?_⟩
    have npD : H D = none := hD
    have hUD : U D = none := none_of_same sU hD
    have lxa : xa.length = a.length := by rw [dpall_len hXa, List.length_map]
    have lxb : xb.length = b.length := by rw [dpall_len hXb, List.length_map]
    refine ⟨_, rfl, pa, rfl, ⟨_, (same_upd hD).sqt (sU.sqt hSa)⟩, for_tup (K := K) (a := pa) (xs := xa) (fun i σ H' => ∃ (k : Nat) (v4 v5 v6 : Option V) (V' : Hp) (zs : List V), σ = [some (.ref pa), some (.ref pb), some (.ref D), some (.int (k : Int)), v4, v5, v6] ∧ k ≤ b.length ∧ (∀ s, a[i]? = some s → ∀ (j : Nat) (q : Span), j < k → b[j]? = some q → q.2 ≤ s.1) ∧ Ext U H V' H' ∧ V' D = none ∧ H' D = some (.lst zs) ∧ DpAll K V' zs ((cmnS (a.take i) b).map spanD)) ?_ ?_ ?_ ?_⟩
    · exact ⟨0, _, _, _, U, [], rfl, Nat.zero_le _, fun s _ j q hj => absurd hj (Nat.not_lt_zero _), Ext.skip sU hD, hUD, upd_same, .nil⟩
    · rintro i σ H' _ ⟨_, _, _, _, V', zs, _, _, _, x, _⟩
      exact x.vh.sqt (x.vv.sqt hSa)
    · rintro i x σ H3 hx ⟨k, v4, v5, v6, V3, zs, rfl, hk, hkb, x3, hV3, hz, dz⟩
      obtain ⟨d, hd, dv⟩ := dpall_get hXa hx
      rw [List.getElem?_map] at hd
      obtain ⟨⟨bg, en⟩, hsg, rfl⟩ := Option.map_eq_some_iff.mp hd
      obtain ⟨pt, rfl, qt⟩ := dp_span dv
      have sUH := x3.vv.trans x3.vh
      refine ⟨pt, _, rfl, sUH.sqt qt, rfl, _, _, rfl, _, _, rfl, rfl, ?_⟩
      refine ⟨_, rfl, _, rfl, _, rfl, Span, Prod.fst, Prod.snd, spanD, b, pb, xb, k, bg, rfl, row_span, sUH.sqt hSb, hXb.to sUH, hk, hkb _ hsg, fun k1 hk1 hb1 he1 => ?_⟩
      refine ⟨_, rfl, ?_⟩
      have hstart : (cmnS (a.take i) b ++ ((b.take k1).filter (meets Prod.fst Prod.snd (bg, en))).map (mkS (bg, en))) = cmnS (a.take i) b := by
        rw [meet_none (lo := Prod.fst) (hi := Prod.snd) (s := ((bg, en) : Span)) hb1]; simp
      refine ⟨fun m σ H' => ∃ (k2 : Nat) (V' : Hp) (zs' : List V), σ = [some (.ref pa), some (.ref pb), some (.ref D), some (.int (k1 : Int)), some (.int bg), some (.int en), some (.int (k2 : Int))] ∧ k1 ≤ k2 ∧ k2 ≤ b.length ∧ m = b.length - k2 ∧ Ext U H V' H' ∧ V' D = none ∧ H' D = some (.lst zs') ∧ DpAll K V' zs' ((cmnS (a.take i) b ++ ((b.take k2).filter (meets Prod.fst Prod.snd (bg, en))).map (mkS (bg, en))).map spanD), ⟨_, k1, V3, zs, rfl, Nat.le_refl _, hk1, rfl, x3, hV3, hz, by rw [hstart]; exact dz⟩, ?_⟩
      rintro m σ H4 ⟨k2, V4, zs4, rfl, hk12, hk2, rfl, x4, hV4, hz4, dz4⟩
      have sU4 := x4.vv.trans x4.vh
      have fin : (∀ q, b[k2]? = some q → en ≤ q.1) → ∃ (k : Nat) (v4 v5 v6 : Option V) (V' : Hp) (zs : List V), [some (V.ref pa), some (V.ref pb), some (V.ref D), some (V.int (k1 : Int)), some (V.int bg), some (V.int en), some (V.int (k2 : Int))] = [some (.ref pa), some (.ref pb), some (.ref D), some (.int (k : Int)), v4, v5, v6] ∧ k ≤ b.length ∧ (∀ s, a[i + 1]? = some s → ∀ (j : Nat) (q : Span), j < k → b[j]? = some q → q.2 ≤ s.1) ∧ Ext U H V' H4 ∧ V' D = none ∧ H4 D = some (.lst zs) ∧ DpAll K V' zs ((cmnS (a.take (i + 1)) b).map spanD) := fun h => by
        refine ⟨k1, _, _, _, V4, zs4, rfl, hk1, fun s hs j q hj hq => ?_, x4, hV4, hz4, ?_⟩
        · have h1 := hb1 j q hj hq
          have h2 := Ra.below hsg hs
          exact Int.le_trans h1 h2
        · have e : cmnS (a.take (i + 1)) b = cmnS (a.take i) b ++ ((b.take k2).filter (meets Prod.fst Prod.snd (bg, en))).map (mkS (bg, en)) := by
            show sweep _ _ _ _ _ = _
            rw [sweep_take hsg]
            unfold swRow
            rw [← meet_end Rb (s := ((bg, en) : Span)) (k := k2) h]; rfl
          rw [e]; exact dz4
      refine ⟨_, rfl, _, rfl, pb, _, rfl, .inr (sU4.sqt hSb), _, _, rfl, rfl, _, rfl, iteP (fun h => ?_) (fun h => ?_)⟩
      · have hk3 : k2 < b.length := by rw [← lxb]; omega
        have hr' := List.getElem?_eq_getElem hk3
        obtain ⟨v, hv, dv⟩ := dpall_get' hXb (i := k2) (d := spanD b[k2]) (by rw [List.getElem?_map, hr']; rfl)
        obtain ⟨pr, rfl, hpr0⟩ := dp_span dv
        have hpr := sU4.sqt hpr0
        generalize b[k2] = row at hr' dv hpr hpr0
        refine ⟨_, rfl, _, rfl, pb, _, _, _, rfl, rfl, sU4.sqt hSb, atI_nat hv, pr, _, _, _, rfl, rfl, hpr, atI_nat (j := 0) rfl, _, rfl, _, _, rfl, rfl, _, rfl, iteP (fun h2 => ?_) (fun h2 => ?_)⟩
        · have hge : bg < row.2 := by
            by_cases c : k2 = k1
            · subst c; exact he1 row hr'
            · have hk1' : k1 < b.length := by omega
              have o := (List.pairwise_iff_getElem.mp Rb.ord) k1 k2 hk1' hk3 (by omega)
              have e1 := he1 _ (List.getElem?_eq_getElem hk1')
              have e2 := Rb.pos row (List.mem_of_getElem? hr')
              have e3 : b[k2] = row := (List.getElem?_eq_some_iff.mp hr').2
              rw [e3] at o
              omega
          refine ⟨fun σ' H2 => ∃ (V' : Hp) (zs' : List V), σ' = [some (.ref pa), some (.ref pb), some (.ref D), some (.int (k1 : Int)), some (.int bg), some (.int en), some (.int ((k2 + 1 : Nat) : Int))] ∧ Ext U H V' H2 ∧ V' D = none ∧ H2 D = some (.lst zs') ∧ DpAll K V' zs' ((cmnS (a.take i) b ++ ((b.take (k2 + 1)).filter (meets Prod.fst Prod.snd (bg, en))).map (mkS (bg, en))).map spanD), ?_, ?_⟩
          · rintro σ' H2 ⟨V', zs', rfl, x', hV', hz', dz'⟩
            exact ⟨b.length - (k2 + 1), by omega, k2 + 1, V', zs', rfl, by omega, hk3, rfl, x', hV', hz', dz'⟩
          · refine ⟨_, rfl, .inl ⟨rfl, _, SqL.of hz4⟩, _, rfl, _, rfl, _, rfl, pb, _, _, _, rfl, rfl, sU4.sqt hSb, atI_nat hv, pr, _, _, _, rfl, rfl, hpr, atI_nat (j := 0) rfl, _, _, rfl, _, rfl, _, rfl, _, rfl, pb, _, _, _, rfl, rfl, sU4.sqt hSb, atI_nat hv, pr, _, _, _, rfl, rfl, hpr, atI_nat (j := 1) rfl, _, _, rfl, len_line (by show 2 ≤ 100000; decide), fun p5 h5 => ?_⟩
            have xn := Ext.new (o := .tup [.int (mxI bg row.1), .int (mnI en row.2)]) x4.vh h5
            have hV5 := xn.keepOut hV4 (by rw [hz4]; exact fun z => by cases z)
            have hz5 := xn.hh _ _ hz4
            refine ⟨D, _, _, rfl, rfl, hz5, lt_line (by rw [dpall_len dz4, List.length_map]; have := sweep_few (lo := Prod.fst) (hi := Prod.snd) (mk := mkS) (a := a) (b := b) i k2 (s := ((bg, en) : Span)) hla hlb; exact Nat.lt_trans this (by decide)), ?_⟩
            refine ⟨_, rfl, _, _, rfl, rfl, _, _, rfl, (x4.trans xn).poke npD hV5, hV5, upd_same, ?_⟩
            have ea : ∀ X F : List Span, X ++ (F ++ [row]).map (mkS (bg, en)) = (X ++ F.map (mkS (bg, en))) ++ [mkS (bg, en) row] := fun X F => by rw [List.map_append, List.append_assoc]; rfl
            rw [meet_step (s := ((bg, en) : Span)) hr' hge h2, ea, List.map_append]
            exact dpall_app (dz4.to xn.vv) (.cons (mk_span (s := mkS (bg, en) row) (SqT.of upd_same)) .nil)
        · exact fin fun q hq => by rw [hr'] at hq; cases hq; omega
      · exact fin fun q hq => by
          have := (List.getElem?_eq_some_iff.mp hq).1
          rw [lxb] at h; omega
    · rintro σ H3 ⟨k, v4, v5, v6, V3, zs, rfl, hk, hkb, x3, hV3, hz, dz⟩
      rw [lxa, List.take_length] at dz
      refine ⟨_, rfl, D, zs, rfl, .inl ⟨SqL.of hz, fun pr hpr => ?_⟩⟩
      have xn := Ext.new (o := .tup zs) x3.vh hpr
      exact q _ _ _ _ (x3.trans xn) (SqT.of upd_same) (dz.to xn.vv)
theorem sc_common : FnScope ["a", "b", "bands", "first", "top", "bottom", "spans", "at"] ["a", "b"] (defScope s_common) := ⟨rfl, rfl, rfl, by decide +kernel, rfl, by decide +kernel, by decide +kernel⟩
theorem ok_common (T : Txt K mg A) : FnOk P w K mg base CX0 5 A.fcommon A.dcommon ["a", "b"] (sp_op2 and K) := by
  refine T.Fcommon.ok sc_common (fun vs H Q E h => ?_) (fun cdv Ar outer s H vs Q E hr h => ?_)
  · obtain ⟨_, _, _, _, _, rfl, _⟩ := h
    rfl
  · obtain ⟨Ra, Rb, va, vb, U, rfl, sU, da, db, oa, ob, pr, q⟩ := h
    rw [← cmnR_eq oa ob] at q
    obtain ⟨pa, xa, rfl, hSa, hXa⟩ := dp_list da
    obtain ⟨pb, xb, rfl, hSb, hXb⟩ := dp_list db
    refine ⟨_, (pss_cons (ps_set (i := 2) sc_common.nd rfl (Or.inl rfl) (pe_lst pa_nil))
      (pss_cons (ps_set (i := 3) sc_common.nd rfl (Or.inl rfl) pe_int)
      (pss_cons (ps_for PassesOwn.never rfl (pi_list (pv 0)) (pg_tup rfl (pgs_cons (pg_name (i := 4) sc_common.nd rfl (Or.inl rfl)) (pgs_cons (pg_name (i := 5) sc_common.nd rfl (Or.inl rfl)) (pgs_cons (pg_name (i := 6) sc_common.nd rfl (Or.inl rfl)) pgs_nil))))
      (pss_cons (ps_set (i := 3) sc_common.nd rfl (Or.inl rfl) (pe_call (ok__first_ending_behind_L T) (hr.mono (by decide)) rfl T.g_first_ending_behind T.k_first_ending_behind T.b_first_ending_behind .nil pass0 (pa_cons (pv 1) (pa_cons (pv 3) (pa_cons (pv 4) pa_nil)))))
      (pss_cons (ps_set (i := 7) sc_common.nd rfl (Or.inl rfl) (pv 3))
      (pss_one (ps_while PassesOwn.never (PW.pt (pw_and (pt_cmpR op_lt (pv 7) (pe_callB call_len_seq (by rfl) T.len PySem.boot_len (pa_cons (pv 1) pa_nil)) (nomark _)) (pw_and1 (pt_cmpR op_lt (pe_ix (r := rIxT K) ix_tup (pe_ix (r := rIxL K) ix_list (pv 1) (pv 7) (fun _ _ => rfl)) pe_int (fun _ _ => rfl)) (pv 5) (nomark _)))))
      (pss_cons (ps_expr (pe_bm PySem.F.plainAttrs_list PySem.F.slot_list_append PySem.F.type_list_append mt_append (pv 2) (pa_cons (pe_tup (pa_cons (pe_callB (call_max2 rfl) (by rfl) T.max (by decide +kernel) (pa_cons (pv 4) (pa_cons (pe_ix (r := rIxT K) ix_tup (pe_ix (r := rIxL K) ix_list (pv 1) (pv 7) (fun _ _ => rfl)) pe_int (fun _ _ => rfl)) pa_nil))) (pa_cons (pe_callB (call_min2 rfl) (by rfl) T.min (by decide +kernel) (pa_cons (pv 5) (pa_cons (pe_ix (r := rIxT K) ix_tup (pe_ix (r := rIxL K) ix_list (pv 1) (pv 7) (fun _ _ => rfl)) pe_int (fun _ _ => rfl)) pa_nil))) (pa_cons (pe_call (ok__common_spans T) (hr.mono (by decide)) rfl T.g_common_spans T.k_common_spans T.b_common_spans .nil pass0 (pa_cons (pv 6) (pa_cons (pe_ix (r := rIxT K) ix_tup (pe_ix (r := rIxL K) ix_list (pv 1) (pv 7) (fun _ _ => rfl)) pe_int (fun _ _ => rfl)) pa_nil))) pa_nil)))) pa_nil)))
      (pss_one (ps_aug (i := 7) sc_common.nd rfl (Or.inl rfl) pe_int ip_add))))))))
      (pss_one (ps_ret (pe_call (ok__joined T) (hr.mono (by decide)) rfl T.g_joined T.k_joined T.b_joined .nil pass0 (pa_cons (pv 2) pa_nil))))))), ?_⟩
    refine ⟨len_line (by show 0 ≤ 100000; decide), fun D hD => ?_⟩
    have npD : H D = none := hD
    have hUD : U D = none := none_of_same sU hD
    have lxa : xa.length = Ra.length := by rw [dpall_len hXa, List.length_map]
    have lxb : xb.length = Rb.length := by rw [dpall_len hXb, List.length_map]
    refine ⟨_, rfl, pa, rfl, ⟨_, (same_upd hD).seq (sU.seq hSa)⟩, for_list (K := K) (a := pa) (xs := xa) (fun i σ H' => ∃ (k : Nat) (v4 v5 v6 v7 : Option V) (V' : Hp) (zs : List V), σ = [some (.ref pa), some (.ref pb), some (.ref D), some (.int (k : Int)), v4, v5, v6, v7] ∧ k ≤ Rb.length ∧ (∀ s, Ra[i]? = some s → ∀ (j : Nat) (q : Band), j < k → Rb[j]? = some q → bHi q ≤ bLo s) ∧ Ext U H V' H' ∧ V' D = none ∧ H' D = some (.lst zs) ∧ DpAll K V' zs ((sweep bLo bHi mkB (Ra.take i) Rb).map bandD)) ?_ ?_ ?_ ?_⟩
    · exact ⟨0, _, _, _, _, U, [], rfl, Nat.zero_le _, fun s _ j q hj => absurd hj (Nat.not_lt_zero _), Ext.skip sU hD, hUD, upd_same, .nil⟩
    · rintro i σ H' _ ⟨_, _, _, _, _, V', zs, _, _, _, x, _⟩
      exact x.vh.seq (x.vv.seq hSa)
    · rintro i x σ H3 hx ⟨k, v4, v5, v6, v7, V3, zs, rfl, hk, hkb, x3, hV3, hz, dz⟩
      obtain ⟨d, hd, dv⟩ := dpall_get hXa hx
      rw [List.getElem?_map] at hd
      obtain ⟨⟨tp, bt, ss⟩, hsg, rfl⟩ := Option.map_eq_some_iff.mp hd
      obtain ⟨pt, pss, ws, rfl, qt, qss, dss⟩ := dp_band dv
      have sUH := x3.vv.trans x3.vh
      refine ⟨pt, _, rfl, sUH.sqt qt, rfl, _, _, rfl, _, _, rfl, _, _, rfl, rfl, ?_⟩
      refine ⟨_, rfl, _, rfl, _, rfl, Band, bLo, bHi, bandD, Rb, pb, xb, k, tp, rfl, row_band, sUH.seq hSb, hXb.to sUH, hk, hkb _ hsg, fun k1 hk1 hb1 he1 => ?_⟩
      refine ⟨_, rfl, ?_⟩
      have hstart : (sweep bLo bHi mkB (Ra.take i) Rb ++ ((Rb.take k1).filter (meets bLo bHi (tp, bt, ss))).map (mkB (tp, bt, ss))) = sweep bLo bHi mkB (Ra.take i) Rb := by
        rw [meet_none (lo := bLo) (hi := bHi) (s := ((tp, bt, ss) : Band)) hb1]; simp
      refine ⟨fun m σ H' => ∃ (k2 : Nat) (V' : Hp) (zs' : List V), σ = [some (.ref pa), some (.ref pb), some (.ref D), some (.int (k1 : Int)), some (.int tp), some (.int bt), some (.ref pss), some (.int (k2 : Int))] ∧ k1 ≤ k2 ∧ k2 ≤ Rb.length ∧ m = Rb.length - k2 ∧ Ext U H V' H' ∧ V' D = none ∧ H' D = some (.lst zs') ∧ DpAll K V' zs' ((sweep bLo bHi mkB (Ra.take i) Rb ++ ((Rb.take k2).filter (meets bLo bHi (tp, bt, ss))).map (mkB (tp, bt, ss))).map bandD), ⟨_, k1, V3, zs, rfl, Nat.le_refl _, hk1, rfl, x3, hV3, hz, by rw [hstart]; exact dz⟩, ?_⟩
      rintro m σ H4 ⟨k2, V4, zs4, rfl, hk12, hk2, rfl, x4, hV4, hz4, dz4⟩
      have sU4 := x4.vv.trans x4.vh
      have fin : (∀ q, Rb[k2]? = some q → bt ≤ bLo q) → ∃ (k : Nat) (v4 v5 v6 v7 : Option V) (V' : Hp) (zs : List V), [some (V.ref pa), some (V.ref pb), some (V.ref D), some (V.int (k1 : Int)), some (V.int tp), some (V.int bt), some (V.ref pss), some (V.int (k2 : Int))] = [some (.ref pa), some (.ref pb), some (.ref D), some (.int (k : Int)), v4, v5, v6, v7] ∧ k ≤ Rb.length ∧ (∀ s, Ra[i + 1]? = some s → ∀ (j : Nat) (q : Band), j < k → Rb[j]? = some q → bHi q ≤ bLo s) ∧ Ext U H V' H4 ∧ V' D = none ∧ H4 D = some (.lst zs) ∧ DpAll K V' zs ((sweep bLo bHi mkB (Ra.take (i + 1)) Rb).map bandD) := fun h => by
        refine ⟨k1, _, _, _, _, V4, zs4, rfl, hk1, fun s hs j q hj hq => ?_, x4, hV4, hz4, ?_⟩
        · have h1 := hb1 j q hj hq
          have h2 := oa.rows.below hsg hs
          exact Int.le_trans h1 h2
        · rw [sweep_take hsg]
          unfold swRow
          rw [← meet_end ob.rows (s := ((tp, bt, ss) : Band)) (k := k2) h]
          exact dz4
      refine ⟨_, rfl, _, rfl, pb, _, rfl, .inl (sU4.seq hSb), _, _, rfl, rfl, _, rfl, iteP (fun h => ?_) (fun h => ?_)⟩
      · have hk3 : k2 < Rb.length := by rw [← lxb]; omega
        have hr' := List.getElem?_eq_getElem hk3
        obtain ⟨v, hv, dv⟩ := dpall_get' hXb (i := k2) (d := bandD Rb[k2]) (by rw [List.getElem?_map, hr']; rfl)
        have e3 : Rb[k2] = Rb[k2] := rfl
        generalize hrow : Rb[k2] = row at hr' dv
        obtain ⟨pr, prs, wr, rfl, hpr0, qrs, drs⟩ := dp_band dv
        have hpr := sU4.sqt hpr0
        refine ⟨_, rfl, _, rfl, pb, _, _, _, rfl, rfl, sU4.seq hSb, atI_nat hv, pr, _, _, _, rfl, rfl, hpr, atI_nat (j := 0) rfl, _, rfl, _, _, rfl, rfl, _, rfl, iteP (fun h2 => ?_) (fun h2 => ?_)⟩
        · have hge : tp < row.2.1 := by
            by_cases c : k2 = k1
            · subst c; exact he1 row hr'
            · have hk1' : k1 < Rb.length := by omega
              have o : bHi Rb[k1] ≤ bLo Rb[k2] := (List.pairwise_iff_getElem.mp ob.rows.ord) k1 k2 hk1' hk3 (by omega)
              have e1 : tp < bHi Rb[k1] := he1 _ (List.getElem?_eq_getElem hk1')
              have e2 : bLo row < bHi row := ob.rows.pos row (List.mem_of_getElem? hr')
              rw [hrow] at o
              have e2' : row.1 < row.2.1 := e2
              have o' : bHi Rb[k1] ≤ row.1 := o
              omega
          have hsa : ((tp, bt, ss) : Band) ∈ Ra := List.mem_of_getElem? hsg
          have hrb : row ∈ Rb := List.mem_of_getElem? hr'
          refine ⟨fun σ' H2 => ∃ (V' : Hp) (zs' : List V), σ' = [some (.ref pa), some (.ref pb), some (.ref D), some (.int (k1 : Int)), some (.int tp), some (.int bt), some (.ref pss), some (.int ((k2 + 1 : Nat) : Int))] ∧ Ext U H V' H2 ∧ V' D = none ∧ H2 D = some (.lst zs') ∧ DpAll K V' zs' ((sweep bLo bHi mkB (Ra.take i) Rb ++ ((Rb.take (k2 + 1)).filter (meets bLo bHi (tp, bt, ss))).map (mkB (tp, bt, ss))).map bandD), ?_, ?_⟩
          · rintro σ' H2 ⟨V', zs', rfl, x', hV', hz', dz'⟩
            exact ⟨Rb.length - (k2 + 1), by omega, k2 + 1, V', zs', rfl, by omega, hk3, rfl, x', hV', hz', dz'⟩
          · refine ⟨_, rfl, .inl ⟨rfl, _, SqL.of hz4⟩, _, rfl, _, rfl, _, rfl, pb, _, _, _, rfl, rfl, sU4.seq hSb, atI_nat hv, pr, _, _, _, rfl, rfl, hpr, atI_nat (j := 0) rfl, _, _, rfl, _, rfl, _, rfl, _, rfl, pb, _, _, _, rfl, rfl, sU4.seq hSb, atI_nat hv, pr, _, _, _, rfl, rfl, hpr, atI_nat (j := 1) rfl, _, _, rfl, _, rfl, _, rfl, _, rfl, pb, _, _, _, rfl, rfl, sU4.seq hSb, atI_nat hv, pr, _, _, _, rfl, rfl, hpr, atI_nat (j := 2) rfl, ?_⟩
            refine ⟨ss, row.2.2, pss, prs, ws, wr, V4, rfl, x4.vh, x4.vv.sqt qss, dss.to x4.vv, x4.vv.sqt qrs, drs.to x4.vv, oa.sps _ hsa, ob.sps _ hrb, oa.fews _ hsa, ob.fews _ hrb, fun p5 zs5 V5 H5 x5 q5 d5 => ?_⟩
            refine ⟨len_line (by show 3 ≤ 100000; decide), fun p6 h6 => ?_⟩
            have x45 := x4.trans x5
            have hV5 := x5.keepOut hV4 (by rw [hz4]; exact fun z => by cases z)
            have hz5 := x5.hh _ _ hz4
            have xn := Ext.new (o := .tup [.int (mxI tp row.1), .int (mnI bt row.2.1), .ref p5]) x5.vh h6
            have hV6 := xn.keepOut hV5 (by rw [hz5]; exact fun z => by cases z)
            have hz6 := xn.hh _ _ hz5
            refine ⟨D, _, _, rfl, rfl, hz6, lt_line (by rw [dpall_len dz4, List.length_map]; have := sweep_few (lo := bLo) (hi := bHi) (mk := mkB) (a := Ra) (b := Rb) i k2 (s := ((tp, bt, ss) : Band)) (Nat.lt_trans oa.few (by decide)) (Nat.lt_trans ob.few (by decide)); exact Nat.lt_trans this (by decide)), ?_⟩
            refine ⟨_, rfl, _, _, rfl, rfl, _, _, rfl, (x45.trans xn).poke npD hV6, hV6, upd_same, ?_⟩
            have sv := x5.vv.trans xn.vv
            have ea : ∀ X F : List Band, X ++ (F ++ [row]).map (mkB (tp, bt, ss)) = (X ++ F.map (mkB (tp, bt, ss))) ++ [mkB (tp, bt, ss) row] := fun X F => by rw [List.map_append, List.append_assoc]; rfl
            rw [meet_step (s := ((tp, bt, ss) : Band)) hr' hge h2, ea, List.map_append]
            exact dpall_app (dz4.to sv) (.cons (mk_band (b := mkB (tp, bt, ss) row) (SqT.of upd_same) (xn.vv.sqt q5) (d5.to xn.vv)) .nil)
        · exact fin fun q hq => by
            rw [hr'] at hq; cases hq
            show bt ≤ row.1
            omega
      · exact fin fun q hq => by
          have := (List.getElem?_eq_some_iff.mp hq).1
          rw [lxb] at h; omega
    · rintro σ H3 ⟨k, v4, v5, v6, v7, V3, zs, rfl, hk, hkb, x3, hV3, hz, dz⟩
      rw [lxa, List.take_length] at dz
      have few : (sweep bLo bHi mkB Ra Rb).length ≤ 20000 := by
        have h1 := sweep_len (lo := bLo) (hi := bHi) (mk := mkB) Ra Rb
        have h2 : Ra.length * Rb.length ≤ 100 * 100 := Nat.mul_le_mul (Nat.le_of_lt oa.few) (Nat.le_of_lt ob.few)
        omega
      have xD := x3.take npD hV3 hz
      exact ⟨_, rfl, sweep bLo bHi mkB Ra Rb, _, _, rfl, xD.vh, .lst (SqL.of upd_same) (dz.to (same_upd hV3)), few, fun v' U' H' x' d' => q _ _ _ (xD.trans x') d'⟩
/-! ### the one form -/
structure Can (R : List Band) : Prop where
  box : Box R
  sp : ∀ b ∈ R, Ch spC b.2.2
  bd : Ch bdC R
  ne : ∀ b ∈ R, b.2.2 ≠ []
theorem Can.nil : Can [] := ⟨Box.nil, fun b hb => (by cases hb), fun i p q hp => (by cases hp), fun b hb => (by cases hb)⟩
theorem Can.cmb {A B : List Band} (op : Bool → Bool → Bool) (ha : Box A) (hb : Box B) : Can (cmbR op A B) := by
  refine ⟨ha.cmb op hb, fun z hz => ?_, cmbR_chain op A B, fun z hz => ?_⟩
  · obtain ⟨_, p, e⟩ := (cmbR_rows op A B).2 z hz
    rw [e]; exact cmbS_chain _ _ _
  · obtain ⟨q, hq, e⟩ := merge_pay bdC bdJ (fun b : Band => b.2.2) (fun _ _ => rfl) _ _ rfl z hz
    have hn := (List.mem_filter.mp hq).2
    have e' : z.2.2 = q.2.2 := e
    rw [e']
    intro h0
    rw [h0] at hn
    exact absurd hn (by decide)
theorem Can.u {R : List Band} (h : Can R) : CanU R := ⟨h.box.rows, fun b hb => ⟨(h.box.sps b hb).pos, gap (h.box.sps b hb) (h.sp b hb)⟩, h.bd, h.ne⟩
/-! ### regions whose edges lie in two lists, in the one form -/
structure RegIn (X Y : List Int) (R : List Band) : Prop where
  u : CanU R
  ys : ∀ b ∈ R, b.1 ∈ Y ∧ b.2.1 ∈ Y
  xs : ∀ b ∈ R, ∀ s ∈ b.2.2, s.1 ∈ X ∧ s.2 ∈ X
theorem rows_len {r : Type} {lo hi : r → Int} {l : List r} {Y : List Int} (R : Rows lo hi l) (h : ∀ q ∈ l, lo q ∈ Y) : l.length ≤ Y.length := by
  have hn : (l.map lo).Nodup := List.pairwise_map.mpr ((List.Pairwise.and_mem.mp R.ord).imp fun {p q} z => by
    have := R.pos p z.1
    intro e
    have := z.2.2
    omega)
  have := nodup_few (l.map lo) Y hn fun k hk => by
    obtain ⟨q, hq, rfl⟩ := List.mem_map.mp hk
    exact h q hq
  rwa [List.length_map] at this
theorem gap_pw : ∀ {l : List Span}, (∀ s ∈ l, s.1 < s.2) → l.Pairwise (fun s t => s.2 < t.1) → (l.flatMap fun s => [s.1, s.2]).Pairwise (· < ·)
  | [], _, _ => List.Pairwise.nil
  | s :: l, hp, hg => by
    obtain ⟨h1, h2⟩ := List.pairwise_cons.mp hg
    have ih := gap_pw (fun t ht => hp t (List.mem_cons_of_mem _ ht)) h2
    have hs := hp s List.mem_cons_self
    have low : ∀ z ∈ l.flatMap fun s => [s.1, s.2], s.2 < z := fun z hz => by
      obtain ⟨t, ht, hzt⟩ := List.mem_flatMap.mp hz
      have a := h1 t ht
      have b := hp t (List.mem_cons_of_mem _ ht)
      simp only [List.mem_cons, List.not_mem_nil, or_false] at hzt
      rcases hzt with rfl | rfl <;> omega
    rw [List.flatMap_cons]
    show (s.1 :: s.2 :: l.flatMap fun s => [s.1, s.2]).Pairwise (· < ·)
    refine List.pairwise_cons.mpr ⟨fun z hz => ?_, List.pairwise_cons.mpr ⟨low, ih⟩⟩
    rcases List.mem_cons.mp hz with rfl | hz
    · exact hs
    · have := low z hz; omega
theorem flat_two (l : List Span) : (l.flatMap fun s => [s.1, s.2]).length = 2 * l.length := by
  induction l with
  | nil => rfl
  | cons s t ih => rw [List.flatMap_cons, List.length_append, ih]; show 2 + 2 * t.length = 2 * (t.length + 1); omega
/-- a row's spans are no more than half of its edges -/
theorem half_len {l : List Span} {X : List Int} (hp : ∀ s ∈ l, s.1 < s.2) (hg : l.Pairwise fun s t => s.2 < t.1) (hX : ∀ s ∈ l, s.1 ∈ X ∧ s.2 ∈ X) : 2 * l.length ≤ X.length := by
  rw [← flat_two l]
  refine nodup_few _ X ((gap_pw hp hg).imp fun h => Int.ne_of_lt h) fun k hk => ?_
  obtain ⟨t, ht, hk⟩ := List.mem_flatMap.mp hk
  simp only [List.mem_cons, List.not_mem_nil, or_false] at hk
  rcases hk with rfl | rfl
  · exact (hX t ht).1
  · exact (hX t ht).2
theorem RegIn.ok {X Y : List Int} {R : List Band} (h : RegIn X Y R) (hx : X.length < 400) (hy : Y.length < 64) : RegOk R := by
  refine ⟨h.u.rows, fun b hb => (h.u.gap b hb).rows, ?_, fun b hb => ?_, fun b hb => (h.u.gap b hb).gap⟩
  · have := rows_len h.u.rows fun q hq => (h.ys q hq).1
    omega
  · have := half_len (h.u.gap b hb).rows.pos (h.u.gap b hb).gap (h.xs b hb)
    omega
theorem RegIn.edge {X Y : List Int} {A B : List Band} (ha : RegIn X Y A) (hb : RegIn X Y B) : (∀ k ∈ edgeL bLo bHi A B, k ∈ Y) ∧ ∀ p, ∀ k ∈ edgeL Prod.fst Prod.snd (spansOf (rowAt bLo bHi A p)) (spansOf (rowAt bLo bHi B p)), k ∈ X := by
  have sp : ∀ {R : List Band}, RegIn X Y R → ∀ p, ∀ s ∈ spansOf (rowAt bLo bHi R p), s.1 ∈ X ∧ s.2 ∈ X := fun {R} hR p s hs => by
    cases e : rowAt bLo bHi R p with
    | none => rw [e] at hs; cases hs
    | some b =>
      rw [e] at hs
      exact hR.xs b (List.mem_of_find?_eq_some e) s hs
  refine ⟨fun k hk => ?_, fun p k hk => ?_⟩
  · unfold edgeL at hk
    simp only [List.mem_append, List.mem_map] at hk
    rcases hk with ((⟨b, h, rfl⟩ | ⟨b, h, rfl⟩) | ⟨b, h, rfl⟩) | ⟨b, h, rfl⟩
    · exact (ha.ys b h).1
    · exact (ha.ys b h).2
    · exact (hb.ys b h).1
    · exact (hb.ys b h).2
  · unfold edgeL at hk
    simp only [List.mem_append, List.mem_map] at hk
    rcases hk with ((⟨b, h, rfl⟩ | ⟨b, h, rfl⟩) | ⟨b, h, rfl⟩) | ⟨b, h, rfl⟩
    · exact (sp ha p b h).1
    · exact (sp ha p b h).2
    · exact (sp hb p b h).1
    · exact (sp hb p b h).2
theorem RegIn.pair {X Y : List Int} {A B : List Band} (ha : RegIn X Y A) (hb : RegIn X Y B) (hx : X.length < 400) (hy : Y.length < 64) : Pair A B :=
  ⟨⟨Y, (ha.edge hb).1, Nat.lt_trans hy (by decide)⟩, fun p => ⟨X, (ha.edge hb).2 p, hx⟩⟩
theorem RegIn.cmb {X Y : List Int} {A B : List Band} (op : Bool → Bool → Bool) (ha : RegIn X Y A) (hb : RegIn X Y B) : RegIn X Y (cmbR op A B) := by
  refine ⟨cmbR_u op A B, fun z hz => ?_, fun z hz s hs => ?_⟩
  · obtain ⟨⟨e1, e2⟩, _⟩ := (cmbR_rows op A B).2 z hz
    exact ⟨(ha.edge hb).1 _ e1, (ha.edge hb).1 _ e2⟩
  · obtain ⟨_, p, e⟩ := (cmbR_rows op A B).2 z hz
    rw [e] at hs
    obtain ⟨m1, m2⟩ := (cmbS_rows op _ _).2 s hs
    exact ⟨(ha.edge hb).2 p _ m1, (ha.edge hb).2 p _ m2⟩
theorem RegIn.nil (X Y : List Int) : RegIn X Y [] := ⟨⟨⟨fun q hq => (by cases hq), List.Pairwise.nil⟩, fun b hb => (by cases hb), fun i p q hp => (by cases hp), fun b hb => (by cases hb)⟩, fun b hb => (by cases hb), fun b hb => (by cases hb)⟩
theorem RegIn.mono {X Y X' Y' : List Int} {R : List Band} (h : RegIn X Y R) (hx : ∀ k ∈ X, k ∈ X') (hy : ∀ k ∈ Y, k ∈ Y') : RegIn X' Y' R :=
  ⟨h.u, fun b hb => ⟨hy _ (h.ys b hb).1, hy _ (h.ys b hb).2⟩, fun b hb s hs => ⟨hx _ (h.xs b hb s hs).1, hx _ (h.xs b hb s hs).2⟩⟩
theorem Can.reg {R : List Band} (h : Can R) : RegIn sides sides R := by
  refine ⟨h.u, fun b hb => ?_, fun b hb s hs => ?_⟩
  · have h1 := h.box.bs b hb
    have h2 : b.1 < b.2.1 := h.box.rows.pos b hb
    exact ⟨in_sides (by omega), in_sides (by omega)⟩
  · have h1 := (h.box.bs b hb).2.2 s hs
    have h2 : s.1 < s.2 := (h.box.sps b hb).pos s hs
    exact ⟨in_sides (by omega), in_sides (by omega)⟩
/-! ### shifted, scaled -/
def rTupOf (K : PySem.W.Frag) : List V → Hp → VK → Prop := fun xs H Q => ∃ p ys, xs = [V.ref p] ∧ ((SqL K H p ys ∧ ∀ l : Addr, H l = none → Q (V.ref l) (upd H l (HO.tup ys))) ∨ SqT K H p ys ∧ Q (V.ref p) H)
def mapB (f g : Int → Int) (b : Band) : Band := (g b.1, g b.2.1, b.2.2.map fun s => (f s.1, f s.2))
def sp_mapR (K : PySem.W.Frag) (args : List Int) (f g : Int → Int) : Sp := fun vs H Q _ => ∃ (r : V) (R : List Band), vs = r :: args.map V.int ∧ Dp K H r (regD R) ∧ RegOk R ∧ ∀ v H', Same H H' → Dp K H' v (regD (R.map (mapB f g))) → Q v H'
def sp_shifted (K : PySem.W.Frag) : Sp := fun vs H Q E => ∃ dx dy : Int, sp_mapR K [dx, dy] (fun z => z + dx) (fun z => z + dy) vs H Q E
def sp_scaled (K : PySem.W.Frag) : Sp := fun vs H Q E => ∃ n : Int, (0 < n ∧ n < 100) ∧ sp_mapR K [n] (fun z => n * z) (fun z => n * z) vs H Q E
theorem sc_shifted : FnScope ["region", "dx", "dy", "begin", "end", "top", "bottom", "spans"] ["region", "dx", "dy"] (defScope s_shifted) := ⟨rfl, rfl, rfl, by decide +kernel, rfl, by decide +kernel, by decide +kernel⟩
theorem ok_shifted (T : Txt K mg A) : FnOk P w K mg base CX0 1 A.fshifted A.dshifted ["region", "dx", "dy"] (sp_shifted K) := by
  refine T.Fshifted.ok sc_shifted (fun vs H Q E h => ?_) (fun cdv Ar outer s H vs Q E hr h => ?_)
  · obtain ⟨_, _, _, _, rfl, _⟩ := h
    rfl
  · obtain ⟨dx, dy, r, R, rfl, dR, oR, q⟩ := h
    obtain ⟨pa, xa, rfl, hpa, hxa⟩ := dp_list dR
    have lx : xa.length = R.length := by rw [dpall_len hxa, List.length_map]
    have fw := oR.few
    refine ⟨_, (pss_one (ps_ret (pe_lc (own := [("top", 5), ("bottom", 6), ("spans", 7)]) (g := (gTup K 3 (gCons (gName 5) (gCons (gName 6) (gCons (gName 7) gNil))))) (tt := tYes) rfl sc_shifted.nd (pi_list (pv 0)) (blkOk_by (own := [("top", 5), ("bottom", 6), ("spans", 7)]) (N := ["region", "dx", "dy", "begin", "end", "top", "bottom", "spans"]) (sc := defScope s_shifted) (by decide +kernel)) (fun _ _ _ _ _ => by exact (pg_tup rfl (pgs_cons (pg_name (i := 5) sc_shifted.nd rfl (Or.inl rfl)) (pgs_cons (pg_name (i := 6) sc_shifted.nd rfl (Or.inl rfl)) (pgs_cons (pg_name (i := 7) sc_shifted.nd rfl (Or.inl rfl)) pgs_nil))))) (fun _ _ _ _ _ => pts_nil) (fun _ _ _ _ _ => by exact (pe_tup (pa_cons (pe_op op_add (pv 5) (pv 2)) (pa_cons (pe_op op_add (pv 6) (pv 2)) (pa_cons (pe_callTy (r := rTupOf K) call_tuple_of (by rfl) T.tuple (by decide +kernel) (pa_cons (pe_lc (wi := iTup K (tVar 7)) (own := [("begin", 3), ("end", 4)]) (g := (gTup K 2 (gCons (gName 3) (gCons (gName 4) gNil)))) (tt := tYes) rfl sc_shifted.nd (pi_tup (pv 7)) (blkOk_by (own := [("begin", 3), ("end", 4)]) (N := ["region", "dx", "dy", "begin", "end", "top", "bottom", "spans"]) (sc := { kind := ScopeKind.function, names := [(".0", NameKind.local), ("top", NameKind.local), ("bottom", NameKind.local), ("spans", NameKind.local), ("tuple", NameKind.globalImplicit), ("dx", NameKind.cell), ("dy", NameKind.cell)], isGenerator := false, isCoroutine := false }) (by decide +kernel)) (fun _ _ _ _ _ => by exact (pg_tup rfl (pgs_cons (pg_name (i := 3) sc_shifted.nd rfl (Or.inl rfl)) (pgs_cons (pg_name (i := 4) sc_shifted.nd rfl (Or.inl rfl)) pgs_nil)))) (fun _ _ _ _ _ => pts_nil) (fun _ _ _ _ _ => by exact (pe_tup (pa_cons (pe_op op_add (pv 3) (pv 1)) (pa_cons (pe_op op_add (pv 4) (pv 1)) pa_nil))))) pa_nil)) pa_nil)))))))), ?_⟩
    refine ⟨_, rfl, pa, rfl, ⟨_, hpa⟩, fun D hD => ?_⟩
    refine lc_dp (walk_list (K := K) (a := pa) (xs := xa)) (K := K) (V0 := H) (H0 := H) (fun i => (R[i]?).map fun b => bandD (mapB (fun z => z + dx) (fun z => z + dy) b)) _ rfl (Same.refl _) hD (by omega) (fun H' s => s.seq hpa) (fun i x H H' y => y.1) ?_ ?_
    · rintro j v V3 H3 hj x3 ⟨_, hv⟩ Qy Qn hy _
      obtain ⟨d, hd, dv⟩ := dpall_get hxa hv
      rw [List.getElem?_map] at hd
      obtain ⟨b, hb, rfl⟩ := Option.map_eq_some_iff.mp hd
      obtain ⟨ab, p, ss, rfl, qa, qp, qs⟩ := dp_band dv
      have fs := oR.fews b (List.mem_of_getElem? hb)
      have lss : ss.length = b.2.2.length := by rw [dpall_len qs, List.length_map]
      have qp3 := x3.hh.sqt qp
      refine ⟨ab, _, rfl, x3.hh.sqt qa, rfl, _, _, rfl, _, _, rfl, _, _, rfl, rfl, rfl, ?_⟩
      refine ⟨_, rfl, _, rfl, _, _, rfl, rfl, _, rfl, _, rfl, _, _, rfl, rfl, _, rfl, p, rfl, ⟨_, qp3⟩, fun D2 hD2 => ?_⟩
      refine lc_dp (walk_tup (K := K) (a := p) (xs := ss)) (K := K) (V0 := V3) (H0 := H3) (fun i => (b.2.2[i]?).map fun s => spanD (s.1 + dx, s.2 + dx)) _ rfl x3.vh hD2 (by omega) (fun H' s => s.sqt qp3) (fun i x H H' y => y.1) ?_ ?_
      · rintro k v V4 H4 hk x4 ⟨_, hv⟩ Qy2 Qn2 hy2 _
        obtain ⟨d, hd, dv⟩ := dpall_get qs hv
        rw [List.getElem?_map] at hd
        obtain ⟨sp, hsp, rfl⟩ := Option.map_eq_some_iff.mp hd
        obtain ⟨as, rfl, qsp⟩ := dp_span dv
        refine ⟨as, _, rfl, x4.hh.sqt (x3.hh.sqt qsp), rfl, _, _, rfl, _, _, rfl, rfl, rfl, _, rfl, _, rfl, _, _, rfl, rfl, _, rfl, _, rfl, _, _, rfl, rfl, len_line (by show 2 ≤ 100000; decide), fun pt nt => ?_⟩
        exact hy2 (spanD (sp.1 + dx, sp.2 + dx)) _ _ _ (by rw [hsp]; rfl) (Ext.new x4.vh nt) (mk_span (SqT.of upd_same))
      · rintro V5 H5 zs x5 hz d5 _
        rw [lss, fm_map] at d5
        refine ⟨D2, zs, rfl, .inl ⟨x5.vh.seq (SqL.of hz), fun lt ht => ⟨len_line (by show 3 ≤ 100000; decide), fun pt nt => ?_⟩⟩⟩
        have x6 := x5.trans (Ext.new (o := .tup zs) x5.vh ht)
        have x7 := x6.trans (Ext.new (o := .tup [.int (b.1 + dy), .int (b.2.1 + dy), .ref lt]) x6.vh nt)
        have s6 := same_upd (o := .tup zs) (none_of_same x5.vh ht)
        have s7 := same_upd (o := .tup [.int (b.1 + dy), .int (b.2.1 + dy), .ref lt]) (none_of_same x6.vh nt)
        refine hy (bandD (mapB (fun z => z + dx) (fun z => z + dy) b)) _ _ _ (by rw [hb]; rfl) x7 (mk_band (b := mapB (fun z => z + dx) (fun z => z + dy) b) (SqT.of upd_same) (s7.sqt (SqT.of upd_same)) ?_)
        show DpAll K _ zs ((b.2.2.map fun s => (s.1 + dx, s.2 + dx)).map spanD)
        rw [List.map_map]
        exact (d5.to s6).to s7
    · rintro U HA ys xx _ _ dv
      rw [lx, fm_map] at dv
      refine q _ _ xx.hh (dv.to xx.vh |> fun z => ?_)
      unfold regD; rw [List.map_map]; exact z
theorem sc_scaled : FnScope ["region", "n", "begin", "end", "top", "bottom", "spans"] ["region", "n"] (defScope s_scaled) := ⟨rfl, rfl, rfl, by decide +kernel, rfl, by decide +kernel, by decide +kernel⟩
theorem ok_scaled (T : Txt K mg A) : FnOk P w K mg base CX0 1 A.fscaled A.dscaled ["region", "n"] (sp_scaled K) := by
  refine T.Fscaled.ok sc_scaled (fun vs H Q E h => ?_) (fun cdv Ar outer s H vs Q E hr h => ?_)
  · obtain ⟨_, _, _, _, rfl, _⟩ := h
    rfl
  · obtain ⟨n, hn, r, R, rfl, dR, oR, q⟩ := h
    obtain ⟨pa, xa, rfl, hpa, hxa⟩ := dp_list dR
    have lx : xa.length = R.length := by rw [dpall_len hxa, List.length_map]
    have fw := oR.few
    refine ⟨_, (pss_one (ps_ret (pe_lc (own := [("top", 4), ("bottom", 5), ("spans", 6)]) (g := (gTup K 3 (gCons (gName 4) (gCons (gName 5) (gCons (gName 6) gNil))))) (tt := tYes) rfl sc_scaled.nd (pi_list (pv 0)) (blkOk_by (own := [("top", 4), ("bottom", 5), ("spans", 6)]) (N := ["region", "n", "begin", "end", "top", "bottom", "spans"]) (sc := defScope s_scaled) (by decide +kernel)) (fun _ _ _ _ _ => by exact (pg_tup rfl (pgs_cons (pg_name (i := 4) sc_scaled.nd rfl (Or.inl rfl)) (pgs_cons (pg_name (i := 5) sc_scaled.nd rfl (Or.inl rfl)) (pgs_cons (pg_name (i := 6) sc_scaled.nd rfl (Or.inl rfl)) pgs_nil))))) (fun _ _ _ _ _ => pts_nil) (fun _ _ _ _ _ => by exact (pe_tup (pa_cons (pe_op op_mul (pv 1) (pv 4)) (pa_cons (pe_op op_mul (pv 1) (pv 5)) (pa_cons (pe_callTy (r := rTupOf K) call_tuple_of (by rfl) T.tuple (by decide +kernel) (pa_cons (pe_lc (wi := iTup K (tVar 6)) (own := [("begin", 2), ("end", 3)]) (g := (gTup K 2 (gCons (gName 2) (gCons (gName 3) gNil)))) (tt := tYes) rfl sc_scaled.nd (pi_tup (pv 6)) (blkOk_by (own := [("begin", 2), ("end", 3)]) (N := ["region", "n", "begin", "end", "top", "bottom", "spans"]) (sc := { kind := ScopeKind.function, names := [(".0", NameKind.local), ("top", NameKind.local), ("bottom", NameKind.local), ("spans", NameKind.local), ("tuple", NameKind.globalImplicit), ("n", NameKind.cell)], isGenerator := false, isCoroutine := false }) (by decide +kernel)) (fun _ _ _ _ _ => by exact (pg_tup rfl (pgs_cons (pg_name (i := 2) sc_scaled.nd rfl (Or.inl rfl)) (pgs_cons (pg_name (i := 3) sc_scaled.nd rfl (Or.inl rfl)) pgs_nil)))) (fun _ _ _ _ _ => pts_nil) (fun _ _ _ _ _ => by exact (pe_tup (pa_cons (pe_op op_mul (pv 1) (pv 2)) (pa_cons (pe_op op_mul (pv 1) (pv 3)) pa_nil))))) pa_nil)) pa_nil)))))))), ?_⟩
    refine ⟨_, rfl, pa, rfl, ⟨_, hpa⟩, fun D hD => ?_⟩
    refine lc_dp (walk_list (K := K) (a := pa) (xs := xa)) (K := K) (V0 := H) (H0 := H) (fun i => (R[i]?).map fun b => bandD (mapB (fun z => n * z) (fun z => n * z) b)) _ rfl (Same.refl _) hD (by omega) (fun H' s => s.seq hpa) (fun i x H H' y => y.1) ?_ ?_
    · rintro j v V3 H3 hj x3 ⟨_, hv⟩ Qy Qn hy _
      obtain ⟨d, hd, dv⟩ := dpall_get hxa hv
      rw [List.getElem?_map] at hd
      obtain ⟨b, hb, rfl⟩ := Option.map_eq_some_iff.mp hd
      obtain ⟨ab, p, ss, rfl, qa, qp, qs⟩ := dp_band dv
      have fs := oR.fews b (List.mem_of_getElem? hb)
      have lss : ss.length = b.2.2.length := by rw [dpall_len qs, List.length_map]
      have qp3 := x3.hh.sqt qp
      refine ⟨ab, _, rfl, x3.hh.sqt qa, rfl, _, _, rfl, _, _, rfl, _, _, rfl, rfl, rfl, ?_⟩
      refine ⟨_, rfl, _, rfl, _, _, rfl, rfl, Or.inl ⟨by omega, by omega⟩, _, rfl, _, rfl, _, _, rfl, rfl, Or.inl ⟨by omega, by omega⟩, _, rfl, p, rfl, ⟨_, qp3⟩, fun D2 hD2 => ?_⟩
      refine lc_dp (walk_tup (K := K) (a := p) (xs := ss)) (K := K) (V0 := V3) (H0 := H3) (fun i => (b.2.2[i]?).map fun s => spanD (n * s.1, n * s.2)) _ rfl x3.vh hD2 (by omega) (fun H' s => s.sqt qp3) (fun i x H H' y => y.1) ?_ ?_
      · rintro k v V4 H4 hk x4 ⟨_, hv⟩ Qy2 Qn2 hy2 _
        obtain ⟨d, hd, dv⟩ := dpall_get qs hv
        rw [List.getElem?_map] at hd
        obtain ⟨sp, hsp, rfl⟩ := Option.map_eq_some_iff.mp hd
        obtain ⟨as, rfl, qsp⟩ := dp_span dv
        refine ⟨as, _, rfl, x4.hh.sqt (x3.hh.sqt qsp), rfl, _, _, rfl, _, _, rfl, rfl, rfl, _, rfl, _, rfl, _, _, rfl, rfl, Or.inl ⟨by omega, by omega⟩, _, rfl, _, rfl, _, _, rfl, rfl, Or.inl ⟨by omega, by omega⟩, len_line (by show 2 ≤ 100000; decide), fun pt nt => ?_⟩
        exact hy2 (spanD (n * sp.1, n * sp.2)) _ _ _ (by rw [hsp]; rfl) (Ext.new x4.vh nt) (mk_span (SqT.of upd_same))
      · rintro V5 H5 zs x5 hz d5 _
        rw [lss, fm_map] at d5
        refine ⟨D2, zs, rfl, .inl ⟨x5.vh.seq (SqL.of hz), fun lt ht => ⟨len_line (by show 3 ≤ 100000; decide), fun pt nt => ?_⟩⟩⟩
        have x6 := x5.trans (Ext.new (o := .tup zs) x5.vh ht)
        have x7 := x6.trans (Ext.new (o := .tup [.int (n * b.1), .int (n * b.2.1), .ref lt]) x6.vh nt)
        have s6 := same_upd (o := .tup zs) (none_of_same x5.vh ht)
        have s7 := same_upd (o := .tup [.int (n * b.1), .int (n * b.2.1), .ref lt]) (none_of_same x6.vh nt)
        refine hy (bandD (mapB (fun z => n * z) (fun z => n * z) b)) _ _ _ (by rw [hb]; rfl) x7 (mk_band (b := mapB (fun z => n * z) (fun z => n * z) b) (SqT.of upd_same) (s7.sqt (SqT.of upd_same)) ?_)
        show DpAll K _ zs ((b.2.2.map fun s => (n * s.1, n * s.2)).map spanD)
        rw [List.map_map]
        exact (d5.to s6).to s7
    · rintro U HA ys xx _ _ dv
      rw [lx, fm_map] at dv
      refine q _ _ xx.hh (dv.to xx.vh |> fun z => ?_)
      unfold regD; rw [List.map_map]; exact z
theorem hasSq_map (f g : Int → Int) {x y X Y : Int} (f1 : ∀ z, f z ≤ X ↔ z ≤ x) (f2 : ∀ z, X < f z ↔ x < z) (g1 : ∀ z, g z ≤ Y ↔ z ≤ y) (g2 : ∀ z, Y < g z ↔ y < z) : ∀ R : List Band, hasSq (R.map (mapB f g)) X Y = hasSq R x y
  | [] => rfl
  | b :: t => by
    show (if g b.1 ≤ Y ∧ Y < g b.2.1 then (b.2.2.map fun s => (f s.1, f s.2)).any (fun s => decide (s.1 ≤ X ∧ X < s.2)) else hasSq (t.map (mapB f g)) X Y) = if b.1 ≤ y ∧ y < b.2.1 then b.2.2.any (fun s => decide (s.1 ≤ x ∧ x < s.2)) else hasSq t x y
    have e : (g b.1 ≤ Y ∧ Y < g b.2.1) ↔ (b.1 ≤ y ∧ y < b.2.1) := and_congr (g1 _) (g2 _)
    by_cases c : b.1 ≤ y ∧ y < b.2.1
    · rw [if_pos c, if_pos (e.mpr c), List.any_map]
      congr 1
      funext s
      exact decide_eq_decide.mpr (and_congr (f1 _) (f2 _))
    · rw [if_neg c, if_neg fun z => c (e.mp z)]
      exact hasSq_map f g f1 f2 g1 g2 t
theorem hasSq_shift (R : List Band) (x y dx dy : Int) : hasSq (R.map (mapB (fun z => z + dx) (fun z => z + dy))) (x + dx) (y + dy) = hasSq R x y :=
  hasSq_map _ _ (fun z => by show z + dx ≤ x + dx ↔ _; omega) (fun z => by show x + dx < z + dx ↔ _; omega) (fun z => by show z + dy ≤ y + dy ↔ _; omega) (fun z => by show y + dy < z + dy ↔ _; omega) R
theorem mul_le_iff {n z x a : Int} (hn : 0 < n) (ha : 0 ≤ a ∧ a < n) : n * z ≤ n * x + a ↔ z ≤ x := by
  refine ⟨fun h => ?_, fun h => ?_⟩
  · by_cases c : z ≤ x
    · exact c
    · have h1 : n * (x + 1) ≤ n * z := Int.mul_le_mul_of_nonneg_left (by omega) (by omega)
      rw [Int.mul_add, Int.mul_one] at h1
      omega
  · have h1 : n * z ≤ n * x := Int.mul_le_mul_of_nonneg_left h (by omega)
    omega
theorem hasSq_scale (R : List Band) {x y n a b : Int} (hn : 0 < n) (ha : 0 ≤ a ∧ a < n) (hb : 0 ≤ b ∧ b < n) : hasSq (R.map (mapB (fun z => n * z) (fun z => n * z))) (n * x + a) (n * y + b) = hasSq R x y :=
  hasSq_map _ _ (fun z => mul_le_iff hn ha) (fun z => by have := mul_le_iff (z := z) (x := x) hn ha; show n * x + a < n * z ↔ _; omega) (fun z => mul_le_iff hn hb) (fun z => by have := mul_le_iff (z := z) (x := y) hn hb; show n * y + b < n * z ↔ _; omega) R
/-! ### a shifted region keeps the one form -/
theorem shiftS_inj (dx : Int) : ∀ l m : List Span, l.map (fun s : Span => (s.1 + dx, s.2 + dx)) = m.map (fun s : Span => (s.1 + dx, s.2 + dx)) → l = m
  | [], [], _ => rfl
  | [], _ :: _, h => by cases h
  | _ :: _, [], h => by cases h
  | s :: l, t :: m, h => by
    rw [List.map_cons, List.map_cons] at h
    injection h with h1 h2
    have e1 : s.1 + dx = t.1 + dx := congrArg Prod.fst h1
    have e2 : s.2 + dx = t.2 + dx := congrArg Prod.snd h1
    have e3 : s = t := Prod.ext (by omega) (by omega)
    rw [shiftS_inj dx l m h2, e3]
theorem CanU.shift {R : List Band} (h : CanU R) (dx dy : Int) : CanU (R.map (mapB (fun z => z + dx) (fun z => z + dy))) := by
  refine ⟨⟨fun q hq => ?_, List.pairwise_map.mpr (h.rows.ord.imp fun {p q} z => ?_)⟩, fun q hq => ?_, fun i p q hp hq => ?_, fun q hq => ?_⟩
  · obtain ⟨b, hb, rfl⟩ := List.mem_map.mp hq
    have : b.1 < b.2.1 := h.rows.pos b hb
    show b.1 + dy < b.2.1 + dy
    omega
  · have z' : p.2.1 ≤ q.1 := z
    show p.2.1 + dy ≤ q.1 + dy
    omega
  · obtain ⟨b, hb, rfl⟩ := List.mem_map.mp hq
    have g := h.gap b hb
    refine ⟨fun s hs => ?_, List.pairwise_map.mpr (g.gap.imp fun {s t} z => by show s.2 + dx < t.1 + dx; omega)⟩
    obtain ⟨s', hs', rfl⟩ := List.mem_map.mp hs
    have := g.pos s' hs'
    show s'.1 + dx < s'.2 + dx
    omega
  · rw [List.getElem?_map] at hp hq
    obtain ⟨b, hb, rfl⟩ := Option.map_eq_some_iff.mp hp
    obtain ⟨c, hc, rfl⟩ := Option.map_eq_some_iff.mp hq
    have k := h.ch i b c hb hc
    unfold bdC at k ⊢
    rw [← Bool.not_eq_true, Bool.and_eq_true, decide_eq_true_eq, decide_eq_true_eq] at k ⊢
    intro ⟨k1, k2⟩
    have k1' : b.2.1 + dy = c.1 + dy := k1
    have k2' : b.2.2.map (fun s : Span => (s.1 + dx, s.2 + dx)) = c.2.2.map (fun s : Span => (s.1 + dx, s.2 + dx)) := k2
    exact k ⟨by omega, shiftS_inj dx _ _ k2'⟩
  · obtain ⟨b, hb, rfl⟩ := List.mem_map.mp hq
    intro e
    exact h.ne b hb (List.map_eq_nil_iff.mp e)
theorem RegIn.shift {X Y : List Int} {R : List Band} (h : RegIn X Y R) (dx dy : Int) : RegIn (X.map fun z => z + dx) (Y.map fun z => z + dy) (R.map (mapB (fun z => z + dx) (fun z => z + dy))) := by
  refine ⟨h.u.shift dx dy, fun q hq => ?_, fun q hq s hs => ?_⟩
  · obtain ⟨b, hb, rfl⟩ := List.mem_map.mp hq
    exact ⟨List.mem_map_of_mem (h.ys b hb).1, List.mem_map_of_mem (h.ys b hb).2⟩
  · obtain ⟨b, hb, rfl⟩ := List.mem_map.mp hq
    obtain ⟨t, ht, rfl⟩ := List.mem_map.mp hs
    exact ⟨List.mem_map_of_mem (h.xs b hb t ht).1, List.mem_map_of_mem (h.xs b hb t ht).2⟩
/-! ### a rule: a walk of zip of a tuple and a list -/
section
open PySem.Spec PyProof.Rows
def ItzM (K : PySem.W.Frag) (a b : Addr) : It :=
  ⟨fun i H => ∃ (xs ys : List V) (x y : V), SqT K H a xs ∧ SqL K H b ys ∧ xs[i]? = some x ∧ ys[i]? = some y,
    fun i H v H' => ∃ T x y, v = .ref T ∧ H T = none ∧ H' = upd H T (.tup [x, y]) ∧ (∀ xs, SqT K H a xs → xs[i]? = some x) ∧ ∀ ys, SqL K H b ys → ys[i]? = some y,
    fun i H => ∃ xs ys : List V, SqT K H a xs ∧ SqL K H b ys ∧ i ≤ xs.length ∧ i ≤ ys.length ∧ (i = xs.length ∨ i = ys.length)⟩
theorem sepM {z TI TO i1 i2 a b : Addr} (D : ZipApart z TI TO i1 i2 a b) : ZipSep2 z TI TO i1 i2 [i1, a] [i2, b] where
  TIz := D.TIz
  TOz := D.TOz
  TITO := D.TITO
  TIi1 := D.TIi1
  mem1 := by simp
  zf1 := by simp only [List.mem_cons, List.not_mem_nil, or_false]; exact fun h => h.elim D.i1z.symm D.l1z.symm
  Tf1 := by simp only [List.mem_cons, List.not_mem_nil, or_false]; exact fun h => h.elim D.TOi1 D.l1TO.symm
  TIi2 := D.TIi2
  mem2 := by simp
  zf2 := by simp only [List.mem_cons, List.not_mem_nil, or_false]; exact fun h => h.elim D.i2z.symm D.l2z.symm
  Tf2 := by simp only [List.mem_cons, List.not_mem_nil, or_false]; exact fun h => h.elim D.TOi2 D.l2TO.symm
  sep1_2 := by simp only [List.mem_cons, List.not_mem_nil, or_false]; exact fun h => h.elim D.i12 D.l2i1.symm
  sep2_1 := by simp only [List.mem_cons, List.not_mem_nil, or_false]; exact fun h => h.elim D.i12.symm D.l1i2.symm
theorem turn_zipM {P : Program} {w : World} {K : PySem.W.Frag} {elts : List Expr} {kk : Nat} {tpos : Pos} {a b z TI TO i1 i2 : Addr} (D : ZipApart z TI TO i1 i2 a b) :
    Turn P w K (.Tuple elts kk tpos) (ItzM K a b) [z, TI, TO, i1, i2] z (fun i h => IsZip h z TI TO .none ∧ IsTupOf2 h TI (.ref i1) (.ref i2) ∧ (∃ x y, IsTupOf2 h TO x y) ∧ h.IsTupleIter i1 a i ∧ h.IsListIter i2 b i) where
  mem := by simp
  obj := fun i h st c hc => by
    obtain ⟨hz, hTI, ⟨x, y, hTO⟩, ⟨o1, e1, _, d1⟩, ⟨o2, e2, _, d2⟩⟩ := st
    simp only [List.mem_cons, List.not_mem_nil, or_false] at hc
    rcases hc with rfl | rfl | rfl | rfl | rfl
    · exact ⟨_, hz, fun v q => nomatch q⟩
    · exact ⟨_, hTI, fun v q => nomatch q⟩
    · exact ⟨_, hTO, fun v q => nomatch q⟩
    · exact ⟨o1, e1, fun v q => by rw [d1] at q; cases q⟩
    · exact ⟨o2, e2, fun v q => by rw [d2] at q; cases q⟩
  keep := fun i h h' st k => by
    obtain ⟨hz, hTI, ⟨x, y, hTO⟩, h1, h2⟩ := st
    exact ⟨k z (by simp) _ hz, k TI (by simp) _ hTI, ⟨x, y, k TO (by simp) _ hTO⟩, h1.at fun o q => k i1 (by simp) o q, h2.at fun o q => k i2 (by simp) o q⟩
  item := by
    intro X hP hw hK hc i pins s σ H E I hf st hg
    subst hP hw hK
    obtain ⟨hz, hTI, ⟨x0, y0, hTO⟩, h1, h2⟩ := st
    obtain ⟨xs, ys, x, y, hqx, hqy, hx, hy⟩ := hg
    obtain ⟨its, rv, p, _⟩ := I.tuple hqx
    obtain ⟨its2, rv2, p2, _⟩ := I.list hqy
    obtain ⟨u, hu, ru⟩ := rv.get hx
    obtain ⟨u2, hu2, ru2⟩ := rv2.get hy
    have hzl : z < s.heap.objs.size := Heap.lt_size hz
    have hh : X.A.handled = none := I.ok.hd hc
    have g1 : its.toArray[i]? = some u := by simpa using hu
    have g2 : its2.toArray[i]? = some u2 := by simpa using hu2
    refine wpAny_pyNext_zipD2_item (sepM D) (Draws.tuple (A := X.A.in1) hh i1 a D.l1i1 its.toArray) (Draws.list (A := X.A.in1) hh i2 b D.l2i2 its2.toArray) hz hTI hTO ⟨h1, p⟩ ⟨h2, p2.isList⟩
      (Array.getElem?_eq_some_iff.mp g1).1 (Array.getElem?_eq_some_iff.mp g2).1 fun x1 x2 h' tk e1 e2 z' TO' h1' h2' hT hsz hk => ?_
    obtain rfl : u = x1 := Option.some.inj (g1.symm.trans e1)
    obtain rfl : u2 = x2 := Option.some.inj (g2.symm.trans e2)
    refine ⟨_, rfl, wpAny_letOwnedTupleGo_zip (s := { s with heap := h', toks := tk }) z' fun h'' z'' sb => ?_⟩
    have hT2 : h''.get? s.heap.objs.size = some { cls := .type "tuple", data := .seq #[u, u2] } := (sb.2 _ (Nat.ne_of_gt hzl)).trans hT
    have new : ObjOk X.prog X.w (upd H s.heap.objs.size (.tup [x, y])) h'' s.heap.objs.size (.tup [x, y]) :=
      ⟨by show 2 ≤ sizeLine; decide, [u, u2], .cons ru (.cons ru2 .nil), ⟨_, hT2, rfl, _, rfl⟩⟩
    have I1 : Inv X pins σ (upd H s.heap.objs.size (.tup [x, y])) { s with heap := h'', toks := tk } :=
      I.turnedNew (t' := tk) (ch := [z, TI, TO, i1, i2]) (fun c o hb q => by
        simp only [List.mem_cons, List.not_mem_nil, or_false, not_or] at hb
        exact (sb.2 c hb.1).trans (hk c o hb.1 hb.2.2.1 hb.2.2.2.1 hb.2.2.2.2 q)) hf (Nat.le_refl _) new
    refine ⟨.ref s.heap.objs.size, _, I1, rfl, ⟨_, x, y, rfl, I.hok.fresh (Nat.le_refl _), rfl, fun l hl => by rw [I.tuple_inj hl hqx]; exact hx, fun l hl => by rw [I.list_inj hl hqy]; exact hy⟩, ⟨z'', ?_, ⟨u, u2, ?_⟩, ?_, ?_⟩, fun c hcm => ?_⟩
    · exact (sb.2 _ D.TIz).trans (hk _ _ D.TIz D.TITO D.TIi1 D.TIi2 hTI)
    · exact (sb.2 _ D.TOz).trans TO'
    · exact h1'.1.at fun o q => (sb.2 _ D.i1z).trans q
    · exact h2'.1.at fun o q => (sb.2 _ D.i2z).trans q
    · have hlt : c < s.heap.objs.size := by
        simp only [List.mem_cons, List.not_mem_nil, or_false] at hcm
        obtain ⟨_, e1, _⟩ := h1
        obtain ⟨_, e2, _⟩ := h2
        rcases hcm with rfl | rfl | rfl | rfl | rfl
        · exact hzl
        · exact Heap.lt_size hTI
        · exact Heap.lt_size hTO
        · exact Heap.lt_size e1
        · exact Heap.lt_size e2
      rw [upd_ne (Nat.ne_of_lt hlt)]
      exact (hf c hcm).1
  done := by
    intro X hP hw hK hc i pins s σ H E I hf st hg
    subst hP hw hK
    obtain ⟨hz, hTI, ⟨x0, y0, hTO⟩, h1, h2⟩ := st
    obtain ⟨xs, ys, hqx, hqy, l1, l2, hend⟩ := hg
    obtain ⟨its, rv, p, _⟩ := I.tuple hqx
    obtain ⟨its2, rv2, p2, _⟩ := I.list hqy
    have n1 : its.toArray.size = xs.length := by rw [List.size_toArray]; exact rv.length.symm
    have n2 : its2.toArray.size = ys.length := by rw [List.size_toArray]; exact rv2.length.symm
    have hh : X.A.handled = none := I.ok.hd hc
    exact wpAny_pyNext_zipD2_end (sepM D) (Draws.tuple (A := X.A.in1) hh i1 a D.l1i1 its.toArray) (Draws.list (A := X.A.in1) hh i2 b D.l2i2 its2.toArray) hz hTI hTO ⟨h1, p⟩ ⟨h2, p2.isList⟩ (by omega) (by omega) (by omega) fun h' tk hk =>
      ⟨rfl, I.turnedL (t' := tk) (ch := [z, TI, TO, i1, i2]) (fun c o hb q => by
        simp only [List.mem_cons, List.not_mem_nil, or_false, not_or] at hb
        exact hk c o hb.1 hb.2.2.1 hb.2.2.2.1 hb.2.2.2.2 q) hf⟩
  self := fun A i s Q E st h => wpAny_pyIter_zip st.1 h
def iZipM (K : PySem.W.Frag) (ta : TA) : TI := fun σ H R => ta σ H fun vs H1 => ∃ a b xs ys, vs = [.ref a, .ref b] ∧ SqT K H1 a xs ∧ SqL K H1 b ys ∧ R (ItzM K a b) H1
theorem pi_zipM {X : Cx} {e e2 : Expr} {ta : TA} {p pos tpos : Pos} {elts : List Expr} {kk : Nat} (hg : Gl X "zip") (hm : X.mg "zip" = none) (ha : PA X [e, e2] ta)
    (hs : starEach [e, e2] X.env = (false, eval e X.env) :: starEach [e2] X.env := by rfl) (hpl : (backTo pos (starEach [e2] X.env)).any (·.1) = false := by rfl) :
    PI X (.Tuple elts kk tpos) (.Call (.Name "zip" p) [e, e2] [] pos) (iZipM X.K ta) := by
  refine ⟨fun pins s σ H R I h => ?_⟩
  refine Call_ (ld_blt I hg hm PyProof.Rows.boot_zip (PyProof.Rows.callWith_type1 (thn (ha.run pos pins s σ H _ I h) fun us s1 ⟨vs, H1, I1, r1, q1⟩ => ?_) hs hpl))
  obtain ⟨a, b, xs, ys, ex, hqx, hqy, q⟩ := q1
  subst ex
  obtain ⟨u, u2, rfl, r, r2⟩ : ∃ u u2, us = [u, u2] ∧ RelV (.ref a) u ∧ RelV (.ref b) u2 := by
    cases r1 with
    | cons r rr => cases rr with
      | cons r' rr => cases rr; exact ⟨_, _, rfl, r, r'⟩
  obtain rfl : u = Value.ref a := r
  obtain rfl : u2 = Value.ref b := r2
  obtain ⟨its, rv, p1, _⟩ := I1.tuple hqx
  obtain ⟨its2, rv2, p2, _⟩ := I1.list hqy
  obtain ⟨o1, ho1, _⟩ := id p1
  refine zip_begins2 (begins_tuple a its.toArray) (begins_list b its2.toArray) p1 p2.isList fun h' hz hTI hTO h1 h2 hsz hk => wpAny_pyIter_zip hz ?_
  have I2 : Inv X pins σ H1 { s1 with heap := h' } := I1.kept (t' := s1.toks) hk
  refine ⟨s1.heap.objs.size + 4, [s1.heap.objs.size + 4, s1.heap.objs.size + 2, s1.heap.objs.size + 3, s1.heap.objs.size, s1.heap.objs.size + 1], _, _, H1, rfl, I2, turn_zipM (PySem.W.ktu_apart s1.heap.objs.size a b (Heap.lt_size ho1) p2.lt), ⟨hz, hTI, ⟨_, _, hTO⟩, ⟨_, h1, rfl, rfl⟩, ⟨_, h2, rfl, rfl⟩⟩, fun c hcm => ?_, q⟩
  have hle : s1.heap.objs.size ≤ c := by
    simp only [List.mem_cons, List.not_mem_nil, or_false] at hcm
    rcases hcm with rfl | rfl | rfl | rfl | rfl
    · exact Nat.le_add_right _ _
    · exact Nat.le_add_right _ _
    · exact Nat.le_add_right _ _
    · exact Nat.le_refl _
    · exact Nat.le_add_right _ _
  exact I1.fpOk hle (I1.hok.fresh hle)
end
/-! ### a rule: list(zip(a, b)) of any two iterators: the pairs are kept -/
section
open PySem.Spec PyProof.Rows
section
variable {prog : Program} {w : World} {A : Around} {E : Value → Shared → Prop} {s : Shared} {z TI TO i1 i2 T : Addr} {fp1 fp2 : List Addr} {n1 n2 i : Nat} {P1 P2 : Nat → Value → Prop} {St1 St2 : Nat → Heap → Prop} {f : Bool} {oT : Obj}
theorem heldD_item {Q : Value → Shared → Prop} (S : ZipSep2 z TI TO i1 i2 fp1 fp2) (D1 : Draws prog w A i1 fp1 n1 P1 St1) (D2 : Draws prog w A i2 fp2 n2 P2 St2)
    (hz : IsZipHeld s.heap z TI TO T f) (hT : s.heap.get? T = some oT) (hTI : IsTupOf2 s.heap TI (.ref i1) (.ref i2)) (st1 : St1 i s.heap) (st2 : St2 i s.heap) (hlt1 : i < n1) (hlt2 : i < n2)
    (hQ : ∀ x1 x2 h' tk, P1 i x1 → P2 i x2 → IsZipHeld h' z TI TO T true → St1 (i + 1) h' → St2 (i + 1) h' → IsTupOf2 h' s.heap.objs.size x1 x2 →
      (∀ c o, c ≠ z → c ≠ i1 → c ≠ i2 → s.heap.get? c = some o → h'.get? c = some o) → Q (.ref s.heap.objs.size) { s with heap := h', toks := tk }) :
    wpAny (model prog w) A (Builtin.«zip.__next__» ⟨[.ref z], []⟩) (fun fin s' => ∃ v, fin = .done (.ret v) ∧ Q v s') E s := by
  obtain ⟨hp, g, d, tk0, os⟩ := s
  show wpAny _ _ (field (.ref z) 2 >>= _) _ _ _
  refine wpAny_bind (wpAny_field hz rfl (x := .bool false) rfl ?_)
  show wpAny _ _ (field (.ref z) 3 >>= _) _ _ _
  refine wpAny_bind (wpAny_field hz rfl (x := .ref TI) rfl ?_)
  refine wpAny_bind (wpAny_seqItems hTI rfl ?_)
  show wpAny _ _ (Builtin.SmallTypes.ownedTupleIsFree (.ref z) >>= _) _ _ _
  refine wpAny_bind (wpAny_tupleHeld_zip hz hT fun g0 hz0 hs0 => ?_)
  replace hs0 : Heap.SameBut z hp g0 := hs0
  simp only [Bool.false_eq_true, if_false]
  refine wpAny_bind ?_
  rw [← Array.forIn_toList]
  simp only [List.forIn_cons, List.forIn_nil]
  refine wpAny_bind (wpAny_bind (wpAny_holding ?_))
  show wpAny _ _ (Builtin.SmallTypes.nextOf (.ref i1) >>= _) _ _ ⟨g0, g, d, tk0, os⟩
  refine wpAny_bind (D1.item i _ _ _ hlt1 (D1.over st1 hs0 S.zf1) fun x1 p1 tk1 hx1 sn1 hp1 => wpAny_pure ?_)
  replace hp1 : Heap.SameBut i1 g0 p1 := hp1
  refine wpAny_pure ?_
  refine wpAny_bind (wpAny_bind (wpAny_holding ?_))
  show wpAny _ _ (Builtin.SmallTypes.nextOf (.ref i2) >>= _) _ _ ⟨p1, g, d, tk1, os⟩
  refine wpAny_bind (D2.item i _ _ _ hlt2 (D2.over (D2.over st2 hs0 S.zf2) hp1 S.sep1_2) fun x2 p2 tk2 hx2 sn2 hp2 => wpAny_pure ?_)
  replace hp2 : Heap.SameBut i2 p1 p2 := hp2
  refine wpAny_pure (wpAny_pure ?_)
  show wpAny _ _ (newTuple [x1, x2] >>= _) _ _ _
  refine wpAny_bind (wpAny_newTuple ?_)
  have hsz : p2.objs.size = hp.objs.size := by rw [hp2.1, hp1.1, hs0.1]
  have hz2 : IsZipHeld p2 z TI TO T true := hp2.extBut _ _ S.zi2 (hp1.extBut _ _ S.zi1 hz0)
  have hk : ∀ c o, c ≠ z → c ≠ i1 → c ≠ i2 → hp.get? c = some o → p2.get? c = some o := fun c o c0 c1 c2 e => hp2.extBut _ _ c2 (hp1.extBut _ _ c1 (hs0.extBut _ _ c0 e))
  have hj1 : St1 (i + 1) p2 := D1.over sn1 hp2 S.sep2_1
  have up : ∀ c o, p2.get? c = some o → (p2.push { cls := .type "tuple", data := .seq #[x1, x2] }).get? c = some o := fun c o e => Heap.get?_push_of_some _ e
  have hN : IsTupOf2 (p2.push { cls := .type "tuple", data := .seq #[x1, x2] }) p2.objs.size x1 x2 := Heap.get?_push_size _ rfl
  refine wpAny_pure ⟨_, rfl, ?_⟩
  show Q (.ref p2.objs.size) _
  rw [hsz] at hN ⊢
  exact hQ x1 x2 _ tk2 hx1 hx2 (up _ _ hz2) (D1.frame _ _ _ hj1 fun b _ o e => up b o e) (D2.frame _ _ _ sn2 fun b _ o e => up b o e) hN fun c o c0 c1 c2 e => up c o (hk c o c0 c1 c2 e)
theorem heldD_end {Q : Fin → Shared → Prop} (S : ZipSep2 z TI TO i1 i2 fp1 fp2) (D1 : Draws prog w A i1 fp1 n1 P1 St1) (D2 : Draws prog w A i2 fp2 n2 P2 St2)
    (hz : IsZipHeld s.heap z TI TO T f) (hT : s.heap.get? T = some oT) (hTI : IsTupOf2 s.heap TI (.ref i1) (.ref i2)) (st1 : St1 i s.heap) (st2 : St2 i s.heap) (hi : i = n1)
    (hE : ∀ h' e, (∀ c o, c ≠ z → c ≠ i1 → s.heap.get? c = some o → h'.get? c = some o) → (∃ o, h'.get? e = some o ∧ o.cls = .type "StopIteration") → E (.ref e) { s with heap := h' }) :
    wpAny (model prog w) A (Builtin.«zip.__next__» ⟨[.ref z], []⟩) Q E s := by
  subst hi
  show wpAny _ _ (field (.ref z) 2 >>= _) _ _ _
  refine wpAny_bind (wpAny_field hz rfl (x := .bool false) rfl ?_)
  show wpAny _ _ (field (.ref z) 3 >>= _) _ _ _
  refine wpAny_bind (wpAny_field hz rfl (x := .ref TI) rfl ?_)
  refine wpAny_bind (wpAny_seqItems hTI rfl ?_)
  show wpAny _ _ (Builtin.SmallTypes.ownedTupleIsFree (.ref z) >>= _) _ _ _
  refine wpAny_bind (wpAny_tupleHeld_zip hz hT fun g0 hz0 hs0 => ?_)
  simp only [Bool.false_eq_true, if_false]
  refine wpAny_bind ?_
  rw [← Array.forIn_toList]
  simp only [List.forIn_cons, List.forIn_nil]
  refine wpAny_bind (wpAny_bind (wpAny_holding ?_))
  show wpAny _ _ (Builtin.SmallTypes.nextOf (.ref i1) >>= _) _ _ _
  refine wpAny_bind (D1.done _ _ _ (D1.over st1 hs0 S.zf1) fun h2 e hs2 he => ?_)
  exact hE h2 e (fun c o c0 c1 x => hs2 _ _ c1 (hs0.extBut _ _ c0 x)) he
theorem heldD_next {Q : Option Value → Shared → Prop} (S : ZipSep2 z TI TO i1 i2 fp1 fp2) (D1 : Draws prog w A.in1 i1 fp1 n1 P1 St1) (D2 : Draws prog w A.in1 i2 fp2 n2 P2 St2)
    (hz : IsZipHeld s.heap z TI TO T f) (hT : s.heap.get? T = some oT) (hTI : IsTupOf2 s.heap TI (.ref i1) (.ref i2)) (st1 : St1 i s.heap) (st2 : St2 i s.heap) (hlt1 : i < n1) (hlt2 : i < n2)
    (hQ : ∀ x1 x2 h' tk, P1 i x1 → P2 i x2 → IsZipHeld h' z TI TO T true → St1 (i + 1) h' → St2 (i + 1) h' → IsTupOf2 h' s.heap.objs.size x1 x2 →
      (∀ c o, c ≠ z → c ≠ i1 → c ≠ i2 → s.heap.get? c = some o → h'.get? c = some o) → Q (some (.ref s.heap.objs.size)) { s with heap := h', toks := tk }) :
    wpAny (model prog w) A (pyNext (.ref z)) Q E s := by
  have hTy : s.TypeIs (.ref z) "zip" := ⟨_, hz, rfl⟩
  unfold pyNext
  exact wpAny_bind (wpAny_attempt (wpAny_callSpecial?_slot (name := Str.ofString "__next__") hTy F.slot_zip_next
    (wpAny_call_entry F.slot_zip_next hTy F.entry_zip_next
      (heldD_item S D1 D2 hz hT hTI st1 st2 hlt1 hlt2 fun x1 x2 h' tk a1 a2 a3 a4 a5 a6 a7 => wpAny_pure (hQ x1 x2 h' tk a1 a2 a3 a4 a5 a6 a7)) (F.args_zip_next_1 _))))
theorem heldD_stop {Q : Option Value → Shared → Prop} (S : ZipSep2 z TI TO i1 i2 fp1 fp2) (D1 : Draws prog w A.in1 i1 fp1 n1 P1 St1) (D2 : Draws prog w A.in1 i2 fp2 n2 P2 St2)
    (hz : IsZipHeld s.heap z TI TO T f) (hT : s.heap.get? T = some oT) (hTI : IsTupOf2 s.heap TI (.ref i1) (.ref i2)) (st1 : St1 i s.heap) (st2 : St2 i s.heap) (hi : i = n1)
    (hQ : ∀ h', (∀ c o, c ≠ z → c ≠ i1 → s.heap.get? c = some o → h'.get? c = some o) → Q none { s with heap := h' }) :
    wpAny (model prog w) A (pyNext (.ref z)) Q E s := by
  have hTy : s.TypeIs (.ref z) "zip" := ⟨_, hz, rfl⟩
  unfold pyNext
  refine wpAny_bind (wpAny_attempt (wpAny_callSpecial?_slot (name := Str.ofString "__next__") hTy F.slot_zip_next
    (wpAny_call_entry F.slot_zip_next hTy F.entry_zip_next (heldD_end S D1 D2 hz hT hTI st1 st2 hi fun h' e hk he => ?_) (F.args_zip_next_1 _))))
  obtain ⟨o, ho, hc⟩ := he
  refine wpAny_bind (wpAny_isInstance (T := "StopIteration") (b := true) ⟨o, ho, hc⟩ isSubtype_stop ?_)
  exact wpAny_pure (hQ _ hk)
end
section
variable {X : Cx} {pins : List (Addr × Obj)} {σ : L2.St} {z TI TO i1 i2 a b S : Addr} {xs ys : List V} {H0 : Hp}
structure LpE (X : Cx) (pins : List (Addr × Obj)) (σ : L2.St) (S : Addr) (xs ys : List V) (H0 : Hp) (i : Nat) (Ts : List Addr) (H : Hp) (s : Shared) (c : Nat) : Prop where
  inv : Inv X pins σ H s
  same : Same H0 H
  len : Ts.length = i
  tup : ∀ (j : Nat) (t : Addr), Ts[j]? = some t → ∃ x y, xs[j]? = some x ∧ ys[j]? = some y ∧ H t = some (.tup [x, y]) ∧ H0 t = none
  lst : s.heap.get? S = some { cls := .type "list", dict := none, data := .seq (Ts.map Value.ref).toArray c, slots := #[] }
  fpS : FpOk X pins H S
structure LpI (X : Cx) (pins : List (Addr × Obj)) (σ : L2.St) (z TI TO i1 i2 a b S : Addr) (xs ys : List V) (H0 : Hp) (i : Nat) (Ts : List Addr) (H : Hp) (s : Shared) (c : Nat) : Prop where
  e : LpE X pins σ S xs ys H0 i Ts H s c
  fp : ∀ c ∈ [z, TI, TO, i1, i2], FpOk X pins H c
  lt : ∀ c ∈ [z, TI, TO, i1, i2], c < s.heap.objs.size
  tie : IsTupOf2 s.heap TI (.ref i1) (.ref i2)
  it1 : s.heap.IsTupleIter i1 a i
  it2 : s.heap.IsListIter i2 b i
  zs : (IsZip s.heap z TI TO .none ∧ ∃ u v, IsTupOf2 s.heap TO u v) ∨ ∃ T f x y, IsZipHeld s.heap z TI TO T f ∧ H T = some (.tup [x, y])
theorem fpOk_upd {H : Hp} {T c : Addr} {o : HO} (h : FpOk X pins H c) (n : c ≠ T) : FpOk X pins (upd H T o) c := ⟨by rw [upd_ne n]; exact h.1, h.2⟩
theorem lp_push {H : Hp} {Ts : List Addr} {s : Shared} {c i tk : Nat} {x y : V} {u u2 : Value} {h' : Heap} {T : Addr} {f : Bool} (D : ZipApart z TI TO i1 i2 a b) (hS : S ∉ [z, TI, TO, i1, i2]) (L : LpI X pins σ z TI TO i1 i2 a b S xs ys H0 i Ts H s c)
    (hx : xs[i]? = some x) (hy : ys[i]? = some y) (ru : RelV x u) (ru2 : RelV y u2)
    (z' : IsZipHeld h' z TI TO T f) (hTT : ∃ x1 y1, upd H s.heap.objs.size (.tup [x, y]) T = some (.tup [x1, y1])) (j1 : h'.IsTupleIter i1 a (i + 1)) (j2 : h'.IsListIter i2 b (i + 1)) (hT : IsTupOf2 h' s.heap.objs.size u u2)
    (hk : ∀ c o, c ≠ z → c ≠ TO → c ≠ i1 → c ≠ i2 → s.heap.get? c = some o → h'.get? c = some o) :
    ∃ c', LpI X pins σ z TI TO i1 i2 a b S xs ys H0 (i + 1) (Ts ++ [s.heap.objs.size]) (upd H s.heap.objs.size (.tup [x, y])) { s with heap := h'.update S (Obj.mapSeq (·.push (.ref s.heap.objs.size))), toks := tk } c' := by
  simp only [List.mem_cons, List.not_mem_nil, or_false, not_or] at hS
  obtain ⟨sz, sTI, sTO, s1, s2⟩ := hS
  have fr : H s.heap.objs.size = none := L.e.inv.hok.fresh (Nat.le_refl _)
  have hS' := hk S _ sz sTO s1 s2 L.e.lst
  have e2 := Heap.get?_update_self (Obj.mapSeq (·.push (Value.ref s.heap.objs.size))) hS' rfl
  have oth : ∀ c o, c ≠ S → h'.get? c = some o → (h'.update S (Obj.mapSeq (·.push (Value.ref s.heap.objs.size)))).get? c = some o := fun c o n e => (Heap.get?_update_other _ _ (Ne.symm n)).trans e
  have nS : S ≠ s.heap.objs.size := Nat.ne_of_lt (Heap.lt_size L.e.lst)
  have nt : ∀ c u, H c = some u → c ≠ s.heap.objs.size := fun c u e n => by rw [n, fr] at e; cases e
  have hsz : s.heap.objs.size < (h'.update S (Obj.mapSeq (·.push (Value.ref s.heap.objs.size)))).objs.size := Heap.lt_size (oth _ _ nS.symm hT)
  have new : ObjOk X.prog X.w (upd H s.heap.objs.size (.tup [x, y])) (h'.update S (Obj.mapSeq (·.push (Value.ref s.heap.objs.size)))) s.heap.objs.size (.tup [x, y]) :=
    ⟨by show 2 ≤ sizeLine; decide, [u, u2], .cons ru (.cons ru2 .nil), ⟨_, oth _ _ nS.symm hT, rfl, _, rfl⟩⟩
  have I1 : Inv X pins σ (upd H s.heap.objs.size (.tup [x, y])) { s with heap := h'.update S (Obj.mapSeq (·.push (Value.ref s.heap.objs.size))), toks := tk } :=
    L.e.inv.turnedNew (t' := tk) (ch := [S, z, TI, TO, i1, i2]) (fun c o hb q => by
      simp only [List.mem_cons, List.not_mem_nil, or_false, not_or] at hb
      exact oth c o hb.1 (hk c o hb.2.1 hb.2.2.2.1 hb.2.2.2.2.1 hb.2.2.2.2.2 q)) (fun c hc => by
      rcases List.mem_cons.mp hc with rfl | hc
      · exact L.e.fpS
      · exact L.fp c hc) (Nat.le_refl _) new
  have ea : (List.map Value.ref (Ts ++ [s.heap.objs.size])).toArray = (List.map Value.ref Ts).toArray.push (.ref s.heap.objs.size) := by simp
  obtain ⟨c', e3⟩ : ∃ c', (h'.update S (Obj.mapSeq (·.push (Value.ref s.heap.objs.size)))).get? S = some { cls := .type "list", dict := none, data := .seq (List.map Value.ref (Ts ++ [s.heap.objs.size])).toArray c', slots := #[] } := ⟨_, by rw [ea]; exact e2⟩
  refine ⟨c', ⟨I1, fun c u e => ?_, ?_, fun j t hj => ?_, e3, fpOk_upd L.e.fpS nS⟩, fun c hc => fpOk_upd (L.fp c hc) (Nat.ne_of_lt (L.lt c hc)), fun c hc => Nat.lt_trans (L.lt c hc) hsz, oth _ _ (Ne.symm sTI) (hk _ _ D.TIz D.TITO D.TIi1 D.TIi2 L.tie), j1.at fun o e => oth _ o (Ne.symm s1) e, j2.at fun o e => oth _ o (Ne.symm s2) e, .inr ?_⟩
  · rw [upd_ne (nt _ _ (L.e.same c u e))]; exact L.e.same c u e
  · rw [List.length_append, L.e.len]; rfl
  · by_cases hlt : j < Ts.length
    · rw [List.getElem?_append_left hlt] at hj
      obtain ⟨x1, y1, e1, e2, e3, e4⟩ := L.e.tup j t hj
      exact ⟨x1, y1, e1, e2, by rw [upd_ne (nt _ _ e3)]; exact e3, e4⟩
    · rw [List.getElem?_append_right (by omega)] at hj
      have hj0 : j - Ts.length = 0 := by
        cases hd : j - Ts.length with
        | zero => rfl
        | succ m => rw [hd] at hj; cases hj
      rw [hj0] at hj
      injection hj with hj
      have hji : j = i := by have := L.e.len; omega
      rw [← hj, hji]
      refine ⟨x, y, hx, hy, upd_same, ?_⟩
      cases q : H0 s.heap.objs.size with
      | none => rfl
      | some o => have := L.e.same _ _ q; rw [fr] at this; cases this
  · obtain ⟨x1, y1, e⟩ := hTT
    exact ⟨T, f, x1, y1, oth _ _ (Ne.symm sz) z', e⟩
theorem lp_end {H : Hp} {Ts : List Addr} {s : Shared} {c i tk : Nat} {h' : Heap} (hS : S ∉ [z, TI, TO, i1, i2]) (L : LpI X pins σ z TI TO i1 i2 a b S xs ys H0 i Ts H s c)
    (hk : ∀ c o, c ≠ z → c ≠ TO → c ≠ i1 → c ≠ i2 → s.heap.get? c = some o → h'.get? c = some o) : LpE X pins σ S xs ys H0 i Ts H { s with heap := h', toks := tk } c := by
  simp only [List.mem_cons, List.not_mem_nil, or_false, not_or] at hS
  obtain ⟨sz, sTI, sTO, s1, s2⟩ := hS
  refine ⟨L.e.inv.turnedL (t' := tk) (ch := [z, TI, TO, i1, i2]) (fun c o hb q => ?_) L.fp, L.e.same, L.e.len, L.e.tup, hk S _ sz sTO s1 s2 L.e.lst, L.e.fpS⟩
  simp only [List.mem_cons, List.not_mem_nil, or_false, not_or] at hb
  exact hk c o hb.1 hb.2.2.1 hb.2.2.2.1 hb.2.2.2.2 q
theorem lp_loop {A : Around} {R : Result → Shared → Prop} (hh : A.handled = none) (D : ZipApart z TI TO i1 i2 a b) (hS : S ∉ [z, TI, TO, i1, i2]) (qx : SqT X.K H0 a xs) (qy : SqL X.K H0 b ys) (hl : xs.length = ys.length) (hz : xs.length ≤ 1000000) (res : Value) :
    ∀ (k i : Nat) (s : Shared) (H : Hp) (Ts : List Addr) (c : Nat), xs.length - i = k → i ≤ xs.length → LpI X pins σ z TI TO i1 i2 a b S xs ys H0 i Ts H s c →
    (∀ s' H' Ts' c', LpE X pins σ S xs ys H0 xs.length Ts' H' s' c' → R (.ok (.ret res)) s') →
    codeAny (model X.prog X.w) A (.builtin "list.extend.loop" ⟨[.ref S, .ref z, res], []⟩) R s := by
  intro k
  induction k with
  | zero =>
    intro i s H Ts c hk hi L hR
    have hin : i = xs.length := by omega
    subst hin
    obtain ⟨its, rv, p, _⟩ := L.e.inv.tuple (L.e.same.sqt qx)
    obtain ⟨its2, rv2, p2, _⟩ := L.e.inv.list (L.e.same.seq qy)
    have n1 : its.toArray.size = xs.length := by rw [List.size_toArray]; exact rv.length.symm
    have n2 : its2.toArray.size = ys.length := by rw [List.size_toArray]; exact rv2.length.symm
    refine codeAny_builtin F.entry_extend_loop ?_
    rw [Around.under_plainId F.plain_extend_loop _]
    show wpAny _ A.in1 (pyNext (.ref z) >>= _) _ _ s
    rcases L.zs with ⟨hz0, u, v, hTO⟩ | ⟨T, f, x0, y0, hz0, hT0⟩
    · exact wpAny_bind (wpAny_pyNext_zipD2_end (sepM D) (Draws.tuple (A := A.in1.in1) hh i1 a D.l1i1 its.toArray) (Draws.list (A := A.in1.in1) hh i2 b D.l2i2 its2.toArray) hz0 L.tie hTO ⟨L.it1, p⟩ ⟨L.it2, p2.isList⟩ (by omega) (by omega) (by omega) fun h' tk hk =>
        wpAny_pure (hR _ _ _ _ (lp_end hS L hk)))
    · obtain ⟨_, _, ⟨oT, hoT, _⟩, _⟩ := L.e.inv.tuple (SqT.of hT0)
      exact wpAny_bind (heldD_stop (sepM D) (Draws.tuple (A := A.in1.in1) hh i1 a D.l1i1 its.toArray) (Draws.list (A := A.in1.in1) hh i2 b D.l2i2 its2.toArray) hz0 hoT L.tie ⟨L.it1, p⟩ ⟨L.it2, p2.isList⟩ n1.symm fun h' hk =>
        wpAny_pure (hR _ _ _ _ (lp_end (tk := s.toks) hS L fun c o h0 _ h1 _ e => hk c o h0 h1 e)))
  | succ k ih =>
    intro i s H Ts c hk hi L hR
    have hlt : i < xs.length := by omega
    have hlt2 : i < ys.length := by omega
    obtain ⟨its, rv, p, _⟩ := L.e.inv.tuple (L.e.same.sqt qx)
    obtain ⟨its2, rv2, p2, _⟩ := L.e.inv.list (L.e.same.seq qy)
    have hx : xs[i]? = some xs[i] := List.getElem?_eq_getElem hlt
    have hy : ys[i]? = some ys[i] := List.getElem?_eq_getElem hlt2
    obtain ⟨u, hu, ru⟩ := rv.get hx
    obtain ⟨u2, hu2, ru2⟩ := rv2.get hy
    have g1 : its.toArray[i]? = some u := by simpa using hu
    have g2 : its2.toArray[i]? = some u2 := by simpa using hu2
    have hS2 := hS
    simp only [List.mem_cons, List.not_mem_nil, or_false, not_or] at hS2
    have hts := L.e.len
    refine codeAny_builtin F.entry_extend_loop ?_
    rw [Around.under_plainId F.plain_extend_loop _]
    show wpAny _ A.in1 (pyNext (.ref z) >>= _) _ _ s
    rcases L.zs with ⟨hz0, u0, v0, hTO⟩ | ⟨T, f, x0, y0, hz0, hT0⟩
    · refine wpAny_bind (wpAny_pyNext_zipD2_item (sepM D) (Draws.tuple (A := A.in1.in1) hh i1 a D.l1i1 its.toArray) (Draws.list (A := A.in1.in1) hh i2 b D.l2i2 its2.toArray) hz0 L.tie hTO ⟨L.it1, p⟩ ⟨L.it2, p2.isList⟩
        (Array.getElem?_eq_some_iff.mp g1).1 (Array.getElem?_eq_some_iff.mp g2).1 fun x1 x2 h' tk e1 e2 z' TO' h1' h2' hT hsz hk => ?_)
      obtain rfl : u = x1 := Option.some.inj (g1.symm.trans e1)
      obtain rfl : u2 = x2 := Option.some.inj (g2.symm.trans e2)
      obtain ⟨c', L2⟩ := lp_push (tk := tk) (f := false) D hS L hx hy ru ru2 z' ⟨_, _, upd_same⟩ h1'.1 h2'.1 hT hk
      have hS' := hk S _ hS2.1 hS2.2.2.1 hS2.2.2.2.1 hS2.2.2.2.2 L.e.lst
      show wpAny _ A.in1 (updateSeq S (·.push (.ref s.heap.objs.size)) >>= _) _ _ _
      refine wpAny_bind ?_
      refine wpAny_updateSeq (s := { s with heap := h', toks := tk }) hS' rfl (wpAny_pure ⟨plainId_quiet F.plain_extend_loop _, ih (i + 1) _ _ _ _ (by omega) hlt L2 hR⟩) ?_ ?_
      · simp only [List.size_toArray, List.length_map]; rw [sizeLine_eq]; omega
      · simp only [Array.size_push, List.size_toArray, List.length_map]; rw [sizeLine_eq]; omega
    · obtain ⟨_, _, ⟨oT, hoT, _⟩, _⟩ := L.e.inv.tuple (SqT.of hT0)
      refine wpAny_bind (heldD_next (sepM D) (Draws.tuple (A := A.in1.in1) hh i1 a D.l1i1 its.toArray) (Draws.list (A := A.in1.in1) hh i2 b D.l2i2 its2.toArray) hz0 hoT L.tie ⟨L.it1, p⟩ ⟨L.it2, p2.isList⟩
        (Array.getElem?_eq_some_iff.mp g1).1 (Array.getElem?_eq_some_iff.mp g2).1 fun x1 x2 h' tk e1 e2 z' h1' h2' hT hk => ?_)
      obtain rfl : u = x1 := Option.some.inj (g1.symm.trans e1)
      obtain rfl : u2 = x2 := Option.some.inj (g2.symm.trans e2)
      have nT : T ≠ s.heap.objs.size := fun n => by rw [n, L.e.inv.hok.fresh (Nat.le_refl _)] at hT0; cases hT0
      obtain ⟨c', L2⟩ := lp_push (tk := tk) (f := true) D hS L hx hy ru ru2 z' ⟨x0, y0, by rw [upd_ne nT]; exact hT0⟩ h1'.1 h2'.1 hT (fun c o h0 _ h1 h2 e => hk c o h0 h1 h2 e)
      have hS' := hk S _ hS2.1 hS2.2.2.2.1 hS2.2.2.2.2 L.e.lst
      show wpAny _ A.in1 (updateSeq S (·.push (.ref s.heap.objs.size)) >>= _) _ _ _
      refine wpAny_bind ?_
      refine wpAny_updateSeq (s := { s with heap := h', toks := tk }) hS' rfl (wpAny_pure ⟨plainId_quiet F.plain_extend_loop _, ih (i + 1) _ _ _ _ (by omega) hlt L2 hR⟩) ?_ ?_
      · simp only [List.size_toArray, List.length_map]; rw [sizeLine_eq]; omega
      · simp only [Array.size_push, List.size_toArray, List.length_map]; rw [sizeLine_eq]; omega
theorem lp_touch {H : Hp} {Ts : List Addr} {s : Shared} {c c' i tk : Nat} {h' : Heap} (hS : S ∉ [z, TI, TO, i1, i2]) (L : LpI X pins σ z TI TO i1 i2 a b S xs ys H0 i Ts H s c)
    (hsz : s.heap.objs.size ≤ h'.objs.size) (hk : ∀ c o, c ≠ S → s.heap.get? c = some o → h'.get? c = some o) (e : h'.get? S = some { cls := .type "list", dict := none, data := .seq (Ts.map Value.ref).toArray c', slots := #[] }) :
    LpI X pins σ z TI TO i1 i2 a b S xs ys H0 i Ts H { s with heap := h', toks := tk } c' := by
  simp only [List.mem_cons, List.not_mem_nil, or_false, not_or] at hS
  obtain ⟨sz, sTI, sTO, s1, s2⟩ := hS
  refine ⟨⟨L.e.inv.turnedL (t' := tk) (ch := [S]) (fun c o hb q => hk c o (fun n => hb (by simp [n])) q) (fun c hc => by rw [List.mem_singleton.mp hc]; exact L.e.fpS), L.e.same, L.e.len, L.e.tup, e, L.e.fpS⟩, L.fp, fun c hc => Nat.lt_of_lt_of_le (L.lt c hc) hsz,
    hk _ _ (Ne.symm sTI) L.tie, L.it1.at fun o q => hk _ o (Ne.symm s1) q, L.it2.at fun o q => hk _ o (Ne.symm s2) q, ?_⟩
  rcases L.zs with ⟨hz, u, v, hTO⟩ | ⟨T, f, x, y, hz, hT⟩
  · exact .inl ⟨hk _ _ (Ne.symm sz) hz, u, v, hk _ _ (Ne.symm sTO) hTO⟩
  · exact .inr ⟨T, f, x, y, hk _ _ (Ne.symm sz) hz, hT⟩
theorem lp_take {H : Hp} {Ts : List Addr} {s : Shared} {c i : Nat} (L : LpE X pins σ S xs ys H0 i Ts H s c) (hi : i ≤ 1000000) : Inv X pins σ (upd H S (.lst (Ts.map V.ref))) s := by
  have vr : ∀ l : List Addr, Vals (l.map V.ref) (l.map Value.ref) := fun l => by
    induction l with
    | nil => exact .nil
    | cons t r ih => exact .cons rfl ih
  refine L.inv.take (t' := s.toks) (h' := s.heap) (fun _ _ _ e => e) L.fpS ⟨?_, Ts.map Value.ref, c, vr Ts, L.lst⟩
  rw [List.length_map, L.len, sizeLine_eq]; omega
theorem zip_no_len : typeLookup (.type "zip") "__len__" = pure none := am_miss_of_fast (by decide +kernel)
theorem zip_no_hint : typeLookup (.type "zip") "__length_hint__" = pure none := am_miss_of_fast (by decide +kernel)
theorem lp_extend {A : Around} {R : Result → Shared → Prop} (hh : A.handled = none) (D : ZipApart z TI TO i1 i2 a b) (hS : S ∉ [z, TI, TO, i1, i2]) (qx : SqT X.K H0 a xs) (qy : SqL X.K H0 b ys) (hl : xs.length = ys.length) (hz : xs.length ≤ 1000000) (res : Value)
    {s : Shared} {H : Hp} {c : Nat} (L : LpI X pins σ z TI TO i1 i2 a b S xs ys H0 0 [] H s c) (hz0 : IsZip s.heap z TI TO .none)
    (hR : ∀ s' H' Ts' c', LpE X pins σ S xs ys H0 xs.length Ts' H' s' c' → R (.ok (.ret res)) s') :
    wpAny (model X.prog X.w) A.in1 (Builtin.List.listExtendWith (.ref S) (.ref z) res)
      (fun fin s' => match fin with | .done f => R (.ok f) s' | .again c' => c'.quiet = true ∧ codeAny (model X.prog X.w) A c' R s') (fun e s' => R (.error e) s') s := by
  have hTy : s.TypeIs (.ref z) "zip" := ⟨_, hz0, rfl⟩
  have hS2 := hS
  simp only [List.mem_cons, List.not_mem_nil, or_false, not_or] at hS2
  have hL := L.e.lst
  unfold Builtin.List.listExtendWith
  refine wpAny_bind (wpAny_typeOf hTy ?_)
  have h1 : Builtin.List.listSameRef (.ref S) (.ref z) = false := by simp [Builtin.List.listSameRef, hS2.1]
  have h2 : (Value.type "zip" == Value.type "list") = false := by decide
  have h3 : (Value.type "zip" == Value.type "tuple") = false := by decide
  simp only [h1, h2, h3, Bool.or_false, Bool.false_eq_true, if_false]
  refine wpAny_bind (wpAny_pyIter_zip hz0 ?_)
  refine wpAny_bind (wpAny_holding ?_)
  unfold Builtin.List.listLengthHint
  refine wpAny_bind (wpAny_specialOf hTy zip_no_len ?_)
  show wpAny _ A.in1 (specialOf (Value.ref z) (Str.ofString "__length_hint__") >>= _) _ _ _
  refine wpAny_bind (wpAny_specialOf hTy zip_no_hint ?_)
  refine wpAny_pure ?_
  show wpAny _ A.in1 (rule "list.extend.makes-room" >>= fun _ => Builtin.List.listTouch (.ref S) >>= fun _ =>
    again (.builtin "list.extend.loop" ⟨[.ref S, .ref z, res], []⟩)) _ _ _
  refine wpAny_bind (wpAny_rule ?_)
  refine wpAny_bind ?_
  show wpAny _ A.in1 (updateSeq S (·.push .none) >>= fun _ => updateSeq S (·.pop)) _ _ _
  refine wpAny_bind (wpAny_updateSeq hL rfl ?_)
  have e2 := Heap.get?_update_self (Obj.mapSeq (·.push Value.none)) hL rfl
  refine wpAny_updateSeq (hz := by seq_fits) e2 rfl ?_
  have e3 := Heap.get?_update_self (Obj.mapSeq (·.pop)) e2 rfl
  have oth : ∀ b o, b ≠ S → s.heap.get? b = some o → ((s.heap.update S (Obj.mapSeq (·.push Value.none))).update S (Obj.mapSeq (·.pop))).get? b = some o :=
    fun b o hb e => (Heap.get?_update_other _ _ (Ne.symm hb)).trans ((Heap.get?_update_other _ _ (Ne.symm hb)).trans e)
  have L3 := lp_touch (s := s) (tk := s.toks) (h' := (s.heap.update S (Obj.mapSeq (·.push Value.none))).update S (Obj.mapSeq (·.pop))) hS L (by rw [(Heap.SameBut.update ..).1, (Heap.SameBut.update ..).1]; exact Nat.le_refl _) oth e3
  exact wpAny_pure ⟨plainId_quiet F.plain_extend_loop _, lp_loop hh D hS qx qy hl hz res xs.length 0 _ H [] _ (by omega) (Nat.zero_le _) L3 hR⟩
theorem lp_init {A : Around} {R : Result → Shared → Prop} (hh : A.handled = none) (D : ZipApart z TI TO i1 i2 a b) {s : Shared} (qx : SqT X.K H0 a xs) (qy : SqL X.K H0 b ys) (hl : xs.length = ys.length) (hz : xs.length ≤ 1000000)
    (I : Inv X pins σ H0 s) (fp : ∀ c ∈ [z, TI, TO, i1, i2], FpOk X pins H0 c) (lt : ∀ c ∈ [z, TI, TO, i1, i2], c < s.heap.objs.size) (tie : IsTupOf2 s.heap TI (.ref i1) (.ref i2)) (it1 : s.heap.IsTupleIter i1 a 0) (it2 : s.heap.IsListIter i2 b 0)
    (hz0 : IsZip s.heap z TI TO .none) {u v : Value} (hTO : IsTupOf2 s.heap TO u v)
    (hR : ∀ s' H' Ts' c', LpE X pins σ s.heap.objs.size xs ys H0 xs.length Ts' H' s' c' → R (.ok (.ret .none)) s') :
    wpAny (model X.prog X.w) A.in1 (Builtin.«list.__init__» ⟨[.ref s.heap.objs.size, .ref z], []⟩)
      (fun fin s' => match fin with | .done f => R (.ok f) s' | .again c' => c'.quiet = true ∧ codeAny (model X.prog X.w) A c' R s') (fun e s' => R (.error e) s') { s with heap := s.heap.push { cls := .type "list", data := .seq #[] } } := by
  have e0 : (s.heap.push { cls := .type "list", data := .seq #[] }).get? s.heap.objs.size = some { cls := .type "list", data := .seq #[] } := Heap.get?_push_size _ rfl
  show wpAny _ _ (do let old ← Builtin.List.listItems (.ref s.heap.objs.size); Builtin.List.listUpdate (.ref s.heap.objs.size) (fun _ => #[]); letGo old.toList.reverse; Builtin.List.listExtendWith (.ref s.heap.objs.size) (.ref z) .none) _ _ _
  refine wpAny_bind ?_
  unfold Builtin.List.listItems
  refine wpAny_bind (wpAny_seqItems e0 rfl (wpAny_pure ?_))
  show wpAny _ _ (updateSeq s.heap.objs.size (fun _ => #[]) >>= fun _ => letGo (#[] : Array Value).toList.reverse >>= fun _ => Builtin.List.listExtendWith (.ref s.heap.objs.size) (.ref z) .none) _ _ _
  refine wpAny_bind (wpAny_updateSeq e0 rfl ?_)
  have e2 := Heap.get?_update_self (Obj.mapSeq (fun _ => (#[] : Array Value))) e0 rfl
  have oth : ∀ c o, s.heap.get? c = some o → ((s.heap.push { cls := .type "list", data := .seq #[] }).update s.heap.objs.size (Obj.mapSeq (fun _ => (#[] : Array Value)))).get? c = some o := fun c o e =>
    (Heap.get?_update_other _ _ (Nat.ne_of_gt (Heap.lt_size e))).trans (Heap.get?_push_of_some _ e)
  refine wpAny_bind (wpAny_letGo ?_)
  have hS : s.heap.objs.size ∉ [z, TI, TO, i1, i2] := fun h => Nat.lt_irrefl _ (lt _ h)
  have sz : s.heap.objs.size ≤ ((s.heap.push { cls := .type "list", data := .seq #[] }).update s.heap.objs.size (Obj.mapSeq (fun _ => (#[] : Array Value)))).objs.size := by
    rw [(Heap.SameBut.update ..).1, Heap.size_push]; exact Nat.le_succ _
  have L : LpI X pins σ z TI TO i1 i2 a b s.heap.objs.size xs ys H0 0 [] H0 { s with heap := (s.heap.push { cls := .type "list", data := .seq #[] }).update s.heap.objs.size (Obj.mapSeq (fun _ => (#[] : Array Value))) } _ :=
    ⟨⟨I.kept (t' := s.toks) oth, Same.refl _, rfl, fun j t h => (by cases h), e2, I.fpOk (Nat.le_refl _) (I.hok.fresh (Nat.le_refl _))⟩, fp, fun c hc => Nat.lt_of_lt_of_le (lt c hc) sz, oth _ _ tie, it1.at fun o q => oth _ o q, it2.at fun o q => oth _ o q, .inl ⟨oth _ _ hz0, u, v, oth _ _ hTO⟩⟩
  exact lp_extend hh D hS qx qy hl hz .none L (oth _ _ hz0) hR
theorem lp_call {A : Around} {E : Value → Shared → Prop} {Q : Value → Shared → Prop} (hh : A.handled = none) (D : ZipApart z TI TO i1 i2 a b) {s : Shared} (qx : SqT X.K H0 a xs) (qy : SqL X.K H0 b ys) (hl : xs.length = ys.length) (hz : xs.length ≤ 1000000)
    (I : Inv X pins σ H0 s) (fp : ∀ c ∈ [z, TI, TO, i1, i2], FpOk X pins H0 c) (lt : ∀ c ∈ [z, TI, TO, i1, i2], c < s.heap.objs.size) (tie : IsTupOf2 s.heap TI (.ref i1) (.ref i2)) (it1 : s.heap.IsTupleIter i1 a 0) (it2 : s.heap.IsListIter i2 b 0)
    (hz0 : IsZip s.heap z TI TO .none) {u v : Value} (hTO : IsTupOf2 s.heap TO u v)
    (hQ : ∀ (s' : Shared) (H' : Hp) (Ts' : List Addr), Inv X pins σ (upd H' s.heap.objs.size (.lst (Ts'.map V.ref))) s' → Same H0 H' → Ts'.length = xs.length → (∀ (j : Nat) (t : Addr), Ts'[j]? = some t → ∃ x y, xs[j]? = some x ∧ ys[j]? = some y ∧ H' t = some (.tup [x, y]) ∧ H0 t = none) →
      H' s.heap.objs.size = none → Q (.ref s.heap.objs.size) s') :
    wpAny (model X.prog X.w) A (call (.type "list") [.ref z]) Q E s := by
  refine callType_codes (Q₁ := fun obj s₁ => obj = .ref s.heap.objs.size ∧ s₁ = { s with heap := s.heap.push { cls := .type "list", data := .seq #[] } }) F.called_list (F.typeCall_list_1 _) F.entry_list_init
    (code_list_new _ ⟨rfl, rfl⟩) fun obj s₁ h₁ => ?_
  obtain ⟨rfl, rfl⟩ := h₁
  refine ⟨⟨_, Heap.get?_push_size _ rfl, rfl⟩, F.args_list_init_2 _ _, lp_init (A := A.in1) hh D qx qy hl hz I fp lt tie it1 it2 hz0 hTO fun s' H' Ts' c' L => ?_⟩
  exact ⟨rfl, hQ s' H' Ts' (lp_take L hz) L.same L.len L.tup L.fpS.1⟩
end
def tListZip (K : PySem.W.Frag) (ta : TA) : TE := fun σ H Q => ta σ H fun vs H1 => ∃ (a b : Addr) (xs ys : List V), vs = [.ref a, .ref b] ∧ SqT K H1 a xs ∧ SqL K H1 b ys ∧ xs.length = ys.length ∧ xs.length ≤ 1000000 ∧
  ∀ (p : Addr) (Ts : List Addr) (H' : Hp), Same H1 H' → Ts.length = xs.length → (∀ (j : Nat) (t : Addr), Ts[j]? = some t → ∃ x y, xs[j]? = some x ∧ ys[j]? = some y ∧ H' t = some (.tup [x, y]) ∧ H1 t = none) → H' p = none → Q (.ref p) (upd H' p (.lst (Ts.map V.ref)))
theorem pe_listZip {X : Cx} {e e2 : Expr} {ta : TA} {p pos p2 pos2 : Pos} (hcalm : X.calm = true) (hgl : Gl X "list") (hml : X.mg "list" = none) (hg : Gl X "zip") (hm : X.mg "zip" = none) (ha : PA X [e, e2] ta)
    (hs : starEach [e, e2] X.env = (false, eval e X.env) :: starEach [e2] X.env := by rfl) (hpl : (backTo pos2 (starEach [e2] X.env)).any (·.1) = false := by rfl)
    (na : starEach [(.Call (.Name "zip" p2) [e, e2] [] pos2 : Expr)] X.env = (false, eval (.Call (.Name "zip" p2) [e, e2] [] pos2) X.env) :: starEach [] X.env := by rfl) :
    PE X (.Call (.Name "list" p) [.Call (.Name "zip" p2) [e, e2] [] pos2] [] pos) (tListZip X.K ta) := by
  refine ⟨fun pins s σ H Q I h => ?_⟩
  refine Call_ (ld_blt I hgl hml boot_list (PyProof.Rows.callWith_type1 (args_cons ?_ na) na))
  refine Call_ (ld_blt I hg hm PyProof.Rows.boot_zip (PyProof.Rows.callWith_type1 (thn (ha.run pos2 pins s σ H _ I h) fun us s1 ⟨vs, H1, I1, r1, q1⟩ => ?_) hs hpl))
  obtain ⟨a, b, xs, ys, ex, hqx, hqy, hl, hz, q⟩ := q1
  subst ex
  obtain ⟨u, u2, rfl, r, r2⟩ : ∃ u u2, us = [u, u2] ∧ RelV (.ref a) u ∧ RelV (.ref b) u2 := by
    cases r1 with
    | cons r rr => cases rr with
      | cons r' rr => cases rr; exact ⟨_, _, rfl, r, r'⟩
  obtain rfl : u = Value.ref a := r
  obtain rfl : u2 = Value.ref b := r2
  obtain ⟨its, rv, p1, _⟩ := I1.tuple hqx
  obtain ⟨its2, rv2, p2, _⟩ := I1.list hqy
  obtain ⟨o1, ho1, _⟩ := id p1
  refine zip_begins2 (begins_tuple a its.toArray) (begins_list b its2.toArray) p1 p2.isList fun h' hz0 hTI hTO h1 h2 hsz hk => args_nil ?_
  have I2 : Inv X pins σ H1 { s1 with heap := h' } := I1.kept (t' := s1.toks) hk
  have mem : ∀ c ∈ [s1.heap.objs.size + 4, s1.heap.objs.size + 2, s1.heap.objs.size + 3, s1.heap.objs.size, s1.heap.objs.size + 1], s1.heap.objs.size ≤ c ∧ c < h'.objs.size := fun c hcm => by
    simp only [List.mem_cons, List.not_mem_nil, or_false] at hcm
    rw [hsz]
    rcases hcm with rfl | rfl | rfl | rfl | rfl
    · exact ⟨Nat.le_add_right _ _, Nat.add_lt_add_left (by decide) _⟩
    · exact ⟨Nat.le_add_right _ _, Nat.add_lt_add_left (by decide) _⟩
    · exact ⟨Nat.le_add_right _ _, Nat.add_lt_add_left (by decide) _⟩
    · exact ⟨Nat.le_refl _, Nat.lt_add_of_pos_right (by decide)⟩
    · exact ⟨Nat.le_add_right _ _, Nat.add_lt_add_left (by decide) _⟩
  refine lp_call (I2.ok.hd hcalm) (PySem.W.ktu_apart s1.heap.objs.size a b (Heap.lt_size ho1) p2.lt) hqx hqy hl hz I2 (fun c hc => I1.fpOk (mem c hc).1 (I1.hok.fresh (mem c hc).1)) (fun c hc => (mem c hc).2) hTI ⟨_, h1, rfl, rfl⟩ ⟨_, h2, rfl, rfl⟩ hz0 hTO fun s' H' Ts' I3 sm ln tp hn => ?_
  exact ⟨.ref _, _, I3, rfl, q _ Ts' H' sm ln tp hn⟩
end
/-! ### a rule: tuple(zip(a, b)) of two lists -/
section
open PySem.Spec PyProof.Rows
section
variable {X : Cx} {pins : List (Addr × Obj)} {σ : L2.St} {z TI TO i1 i2 a b S : Addr} {xs ys : List V} {H0 : Hp}
structure LqI (X : Cx) (pins : List (Addr × Obj)) (σ : L2.St) (z TI TO i1 i2 a b S : Addr) (xs ys : List V) (H0 : Hp) (i : Nat) (Ts : List Addr) (H : Hp) (s : Shared) (c : Nat) : Prop where
  e : LpE X pins σ S xs ys H0 i Ts H s c
  fp : ∀ c ∈ [z, TI, TO, i1, i2], FpOk X pins H c
  lt : ∀ c ∈ [z, TI, TO, i1, i2], c < s.heap.objs.size
  tie : IsTupOf2 s.heap TI (.ref i1) (.ref i2)
  it1 : s.heap.IsListIter i1 a i
  it2 : s.heap.IsListIter i2 b i
  zs : (IsZip s.heap z TI TO .none ∧ ∃ u v, IsTupOf2 s.heap TO u v) ∨ ∃ T f x y, IsZipHeld s.heap z TI TO T f ∧ H T = some (.tup [x, y])
theorem lq_push {H : Hp} {Ts : List Addr} {s : Shared} {c i tk : Nat} {x y : V} {u u2 : Value} {h' : Heap} {T : Addr} {f : Bool} (D : ZipApart z TI TO i1 i2 a b) (hS : S ∉ [z, TI, TO, i1, i2]) (L : LqI X pins σ z TI TO i1 i2 a b S xs ys H0 i Ts H s c)
    (hx : xs[i]? = some x) (hy : ys[i]? = some y) (ru : RelV x u) (ru2 : RelV y u2)
    (z' : IsZipHeld h' z TI TO T f) (hTT : ∃ x1 y1, upd H s.heap.objs.size (.tup [x, y]) T = some (.tup [x1, y1])) (j1 : h'.IsListIter i1 a (i + 1)) (j2 : h'.IsListIter i2 b (i + 1)) (hT : IsTupOf2 h' s.heap.objs.size u u2)
    (hk : ∀ c o, c ≠ z → c ≠ TO → c ≠ i1 → c ≠ i2 → s.heap.get? c = some o → h'.get? c = some o) :
    ∃ c', LqI X pins σ z TI TO i1 i2 a b S xs ys H0 (i + 1) (Ts ++ [s.heap.objs.size]) (upd H s.heap.objs.size (.tup [x, y])) { s with heap := h'.update S (Obj.mapSeq (·.push (.ref s.heap.objs.size))), toks := tk } c' := by
  simp only [List.mem_cons, List.not_mem_nil, or_false, not_or] at hS
  obtain ⟨sz, sTI, sTO, s1, s2⟩ := hS
  have fr : H s.heap.objs.size = none := L.e.inv.hok.fresh (Nat.le_refl _)
  have hS' := hk S _ sz sTO s1 s2 L.e.lst
  have e2 := Heap.get?_update_self (Obj.mapSeq (·.push (Value.ref s.heap.objs.size))) hS' rfl
  have oth : ∀ c o, c ≠ S → h'.get? c = some o → (h'.update S (Obj.mapSeq (·.push (Value.ref s.heap.objs.size)))).get? c = some o := fun c o n e => (Heap.get?_update_other _ _ (Ne.symm n)).trans e
  have nS : S ≠ s.heap.objs.size := Nat.ne_of_lt (Heap.lt_size L.e.lst)
  have nt : ∀ c u, H c = some u → c ≠ s.heap.objs.size := fun c u e n => by rw [n, fr] at e; cases e
  have hsz : s.heap.objs.size < (h'.update S (Obj.mapSeq (·.push (Value.ref s.heap.objs.size)))).objs.size := Heap.lt_size (oth _ _ nS.symm hT)
  have new : ObjOk X.prog X.w (upd H s.heap.objs.size (.tup [x, y])) (h'.update S (Obj.mapSeq (·.push (Value.ref s.heap.objs.size)))) s.heap.objs.size (.tup [x, y]) :=
    ⟨by show 2 ≤ sizeLine; decide, [u, u2], .cons ru (.cons ru2 .nil), ⟨_, oth _ _ nS.symm hT, rfl, _, rfl⟩⟩
  have I1 : Inv X pins σ (upd H s.heap.objs.size (.tup [x, y])) { s with heap := h'.update S (Obj.mapSeq (·.push (Value.ref s.heap.objs.size))), toks := tk } :=
    L.e.inv.turnedNew (t' := tk) (ch := [S, z, TI, TO, i1, i2]) (fun c o hb q => by
      simp only [List.mem_cons, List.not_mem_nil, or_false, not_or] at hb
      exact oth c o hb.1 (hk c o hb.2.1 hb.2.2.2.1 hb.2.2.2.2.1 hb.2.2.2.2.2 q)) (fun c hc => by
      rcases List.mem_cons.mp hc with rfl | hc
      · exact L.e.fpS
      · exact L.fp c hc) (Nat.le_refl _) new
  have ea : (List.map Value.ref (Ts ++ [s.heap.objs.size])).toArray = (List.map Value.ref Ts).toArray.push (.ref s.heap.objs.size) := by simp
  obtain ⟨c', e3⟩ : ∃ c', (h'.update S (Obj.mapSeq (·.push (Value.ref s.heap.objs.size)))).get? S = some { cls := .type "list", dict := none, data := .seq (List.map Value.ref (Ts ++ [s.heap.objs.size])).toArray c', slots := #[] } := ⟨_, by rw [ea]; exact e2⟩
  refine ⟨c', ⟨I1, fun c u e => ?_, ?_, fun j t hj => ?_, e3, fpOk_upd L.e.fpS nS⟩, fun c hc => fpOk_upd (L.fp c hc) (Nat.ne_of_lt (L.lt c hc)), fun c hc => Nat.lt_trans (L.lt c hc) hsz, oth _ _ (Ne.symm sTI) (hk _ _ D.TIz D.TITO D.TIi1 D.TIi2 L.tie), j1.at fun o e => oth _ o (Ne.symm s1) e, j2.at fun o e => oth _ o (Ne.symm s2) e, .inr ?_⟩
  · rw [upd_ne (nt _ _ (L.e.same c u e))]; exact L.e.same c u e
  · rw [List.length_append, L.e.len]; rfl
  · by_cases hlt : j < Ts.length
    · rw [List.getElem?_append_left hlt] at hj
      obtain ⟨x1, y1, e1, e2, e3, e4⟩ := L.e.tup j t hj
      exact ⟨x1, y1, e1, e2, by rw [upd_ne (nt _ _ e3)]; exact e3, e4⟩
    · rw [List.getElem?_append_right (by omega)] at hj
      have hj0 : j - Ts.length = 0 := by
        cases hd : j - Ts.length with
        | zero => rfl
        | succ m => rw [hd] at hj; cases hj
      rw [hj0] at hj
      injection hj with hj
      have hji : j = i := by have := L.e.len; omega
      rw [← hj, hji]
      refine ⟨x, y, hx, hy, upd_same, ?_⟩
      cases q : H0 s.heap.objs.size with
      | none => rfl
      | some o => have := L.e.same _ _ q; rw [fr] at this; cases this
  · obtain ⟨x1, y1, e⟩ := hTT
    exact ⟨T, f, x1, y1, oth _ _ (Ne.symm sz) z', e⟩
theorem lq_end {H : Hp} {Ts : List Addr} {s : Shared} {c i tk : Nat} {h' : Heap} (hS : S ∉ [z, TI, TO, i1, i2]) (L : LqI X pins σ z TI TO i1 i2 a b S xs ys H0 i Ts H s c)
    (hk : ∀ c o, c ≠ z → c ≠ TO → c ≠ i1 → c ≠ i2 → s.heap.get? c = some o → h'.get? c = some o) : LpE X pins σ S xs ys H0 i Ts H { s with heap := h', toks := tk } c := by
  simp only [List.mem_cons, List.not_mem_nil, or_false, not_or] at hS
  obtain ⟨sz, sTI, sTO, s1, s2⟩ := hS
  refine ⟨L.e.inv.turnedL (t' := tk) (ch := [z, TI, TO, i1, i2]) (fun c o hb q => ?_) L.fp, L.e.same, L.e.len, L.e.tup, hk S _ sz sTO s1 s2 L.e.lst, L.e.fpS⟩
  simp only [List.mem_cons, List.not_mem_nil, or_false, not_or] at hb
  exact hk c o hb.1 hb.2.2.1 hb.2.2.2.1 hb.2.2.2.2 q
theorem lq_loop {A : Around} {R : Result → Shared → Prop} (hh : A.handled = none) (D : ZipApart z TI TO i1 i2 a b) (hS : S ∉ [z, TI, TO, i1, i2]) (qx : SqL X.K H0 a xs) (qy : SqL X.K H0 b ys) (hl : xs.length = ys.length) (hz : xs.length ≤ 1000000) (res : Value) :
    ∀ (k i : Nat) (s : Shared) (H : Hp) (Ts : List Addr) (c : Nat), xs.length - i = k → i ≤ xs.length → LqI X pins σ z TI TO i1 i2 a b S xs ys H0 i Ts H s c →
    (∀ s' H' Ts' c', LpE X pins σ S xs ys H0 xs.length Ts' H' s' c' → R (.ok (.ret res)) s') →
    codeAny (model X.prog X.w) A (.builtin "list.extend.loop" ⟨[.ref S, .ref z, res], []⟩) R s := by
  intro k
  induction k with
  | zero =>
    intro i s H Ts c hk hi L hR
    have hin : i = xs.length := by omega
    subst hin
    obtain ⟨its, rv, p, _⟩ := L.e.inv.list (L.e.same.seq qx)
    obtain ⟨its2, rv2, p2, _⟩ := L.e.inv.list (L.e.same.seq qy)
    have n1 : its.toArray.size = xs.length := by rw [List.size_toArray]; exact rv.length.symm
    have n2 : its2.toArray.size = ys.length := by rw [List.size_toArray]; exact rv2.length.symm
    refine codeAny_builtin F.entry_extend_loop ?_
    rw [Around.under_plainId F.plain_extend_loop _]
    show wpAny _ A.in1 (pyNext (.ref z) >>= _) _ _ s
    rcases L.zs with ⟨hz0, u, v, hTO⟩ | ⟨T, f, x0, y0, hz0, hT0⟩
    · exact wpAny_bind (wpAny_pyNext_zipD2_end (sepM D) (Draws.list (A := A.in1.in1) hh i1 a D.l1i1 its.toArray) (Draws.list (A := A.in1.in1) hh i2 b D.l2i2 its2.toArray) hz0 L.tie hTO ⟨L.it1, p.isList⟩ ⟨L.it2, p2.isList⟩ (by omega) (by omega) (by omega) fun h' tk hk =>
        wpAny_pure (hR _ _ _ _ (lq_end hS L hk)))
    · obtain ⟨_, _, ⟨oT, hoT, _⟩, _⟩ := L.e.inv.tuple (SqT.of hT0)
      exact wpAny_bind (heldD_stop (sepM D) (Draws.list (A := A.in1.in1) hh i1 a D.l1i1 its.toArray) (Draws.list (A := A.in1.in1) hh i2 b D.l2i2 its2.toArray) hz0 hoT L.tie ⟨L.it1, p.isList⟩ ⟨L.it2, p2.isList⟩ n1.symm fun h' hk =>
        wpAny_pure (hR _ _ _ _ (lq_end (tk := s.toks) hS L fun c o h0 _ h1 _ e => hk c o h0 h1 e)))
  | succ k ih =>
    intro i s H Ts c hk hi L hR
    have hlt : i < xs.length := by omega
    have hlt2 : i < ys.length := by omega
    obtain ⟨its, rv, p, _⟩ := L.e.inv.list (L.e.same.seq qx)
    obtain ⟨its2, rv2, p2, _⟩ := L.e.inv.list (L.e.same.seq qy)
    have hx : xs[i]? = some xs[i] := List.getElem?_eq_getElem hlt
    have hy : ys[i]? = some ys[i] := List.getElem?_eq_getElem hlt2
    obtain ⟨u, hu, ru⟩ := rv.get hx
    obtain ⟨u2, hu2, ru2⟩ := rv2.get hy
    have g1 : its.toArray[i]? = some u := by simpa using hu
    have g2 : its2.toArray[i]? = some u2 := by simpa using hu2
    have hS2 := hS
    simp only [List.mem_cons, List.not_mem_nil, or_false, not_or] at hS2
    have hts := L.e.len
    refine codeAny_builtin F.entry_extend_loop ?_
    rw [Around.under_plainId F.plain_extend_loop _]
    show wpAny _ A.in1 (pyNext (.ref z) >>= _) _ _ s
    rcases L.zs with ⟨hz0, u0, v0, hTO⟩ | ⟨T, f, x0, y0, hz0, hT0⟩
    · refine wpAny_bind (wpAny_pyNext_zipD2_item (sepM D) (Draws.list (A := A.in1.in1) hh i1 a D.l1i1 its.toArray) (Draws.list (A := A.in1.in1) hh i2 b D.l2i2 its2.toArray) hz0 L.tie hTO ⟨L.it1, p.isList⟩ ⟨L.it2, p2.isList⟩
        (Array.getElem?_eq_some_iff.mp g1).1 (Array.getElem?_eq_some_iff.mp g2).1 fun x1 x2 h' tk e1 e2 z' TO' h1' h2' hT hsz hk => ?_)
      obtain rfl : u = x1 := Option.some.inj (g1.symm.trans e1)
      obtain rfl : u2 = x2 := Option.some.inj (g2.symm.trans e2)
      obtain ⟨c', L2⟩ := lq_push (tk := tk) (f := false) D hS L hx hy ru ru2 z' ⟨_, _, upd_same⟩ h1'.1 h2'.1 hT hk
      have hS' := hk S _ hS2.1 hS2.2.2.1 hS2.2.2.2.1 hS2.2.2.2.2 L.e.lst
      show wpAny _ A.in1 (updateSeq S (·.push (.ref s.heap.objs.size)) >>= _) _ _ _
      refine wpAny_bind ?_
      refine wpAny_updateSeq (s := { s with heap := h', toks := tk }) hS' rfl (wpAny_pure ⟨plainId_quiet F.plain_extend_loop _, ih (i + 1) _ _ _ _ (by omega) hlt L2 hR⟩) ?_ ?_
      · simp only [List.size_toArray, List.length_map]; rw [sizeLine_eq]; omega
      · simp only [Array.size_push, List.size_toArray, List.length_map]; rw [sizeLine_eq]; omega
    · obtain ⟨_, _, ⟨oT, hoT, _⟩, _⟩ := L.e.inv.tuple (SqT.of hT0)
      refine wpAny_bind (heldD_next (sepM D) (Draws.list (A := A.in1.in1) hh i1 a D.l1i1 its.toArray) (Draws.list (A := A.in1.in1) hh i2 b D.l2i2 its2.toArray) hz0 hoT L.tie ⟨L.it1, p.isList⟩ ⟨L.it2, p2.isList⟩
        (Array.getElem?_eq_some_iff.mp g1).1 (Array.getElem?_eq_some_iff.mp g2).1 fun x1 x2 h' tk e1 e2 z' h1' h2' hT hk => ?_)
      obtain rfl : u = x1 := Option.some.inj (g1.symm.trans e1)
      obtain rfl : u2 = x2 := Option.some.inj (g2.symm.trans e2)
      have nT : T ≠ s.heap.objs.size := fun n => by rw [n, L.e.inv.hok.fresh (Nat.le_refl _)] at hT0; cases hT0
      obtain ⟨c', L2⟩ := lq_push (tk := tk) (f := true) D hS L hx hy ru ru2 z' ⟨x0, y0, by rw [upd_ne nT]; exact hT0⟩ h1'.1 h2'.1 hT (fun c o h0 _ h1 h2 e => hk c o h0 h1 h2 e)
      have hS' := hk S _ hS2.1 hS2.2.2.2.1 hS2.2.2.2.2 L.e.lst
      show wpAny _ A.in1 (updateSeq S (·.push (.ref s.heap.objs.size)) >>= _) _ _ _
      refine wpAny_bind ?_
      refine wpAny_updateSeq (s := { s with heap := h', toks := tk }) hS' rfl (wpAny_pure ⟨plainId_quiet F.plain_extend_loop _, ih (i + 1) _ _ _ _ (by omega) hlt L2 hR⟩) ?_ ?_
      · simp only [List.size_toArray, List.length_map]; rw [sizeLine_eq]; omega
      · simp only [Array.size_push, List.size_toArray, List.length_map]; rw [sizeLine_eq]; omega
theorem lq_touch {H : Hp} {Ts : List Addr} {s : Shared} {c c' i tk : Nat} {h' : Heap} (hS : S ∉ [z, TI, TO, i1, i2]) (L : LqI X pins σ z TI TO i1 i2 a b S xs ys H0 i Ts H s c)
    (hsz : s.heap.objs.size ≤ h'.objs.size) (hk : ∀ c o, c ≠ S → s.heap.get? c = some o → h'.get? c = some o) (e : h'.get? S = some { cls := .type "list", dict := none, data := .seq (Ts.map Value.ref).toArray c', slots := #[] }) :
    LqI X pins σ z TI TO i1 i2 a b S xs ys H0 i Ts H { s with heap := h', toks := tk } c' := by
  simp only [List.mem_cons, List.not_mem_nil, or_false, not_or] at hS
  obtain ⟨sz, sTI, sTO, s1, s2⟩ := hS
  refine ⟨⟨L.e.inv.turnedL (t' := tk) (ch := [S]) (fun c o hb q => hk c o (fun n => hb (by simp [n])) q) (fun c hc => by rw [List.mem_singleton.mp hc]; exact L.e.fpS), L.e.same, L.e.len, L.e.tup, e, L.e.fpS⟩, L.fp, fun c hc => Nat.lt_of_lt_of_le (L.lt c hc) hsz,
    hk _ _ (Ne.symm sTI) L.tie, L.it1.at fun o q => hk _ o (Ne.symm s1) q, L.it2.at fun o q => hk _ o (Ne.symm s2) q, ?_⟩
  rcases L.zs with ⟨hz, u, v, hTO⟩ | ⟨T, f, x, y, hz, hT⟩
  · exact .inl ⟨hk _ _ (Ne.symm sz) hz, u, v, hk _ _ (Ne.symm sTO) hTO⟩
  · exact .inr ⟨T, f, x, y, hk _ _ (Ne.symm sz) hz, hT⟩
theorem lq_extend {A : Around} {R : Result → Shared → Prop} (hh : A.handled = none) (D : ZipApart z TI TO i1 i2 a b) (hS : S ∉ [z, TI, TO, i1, i2]) (qx : SqL X.K H0 a xs) (qy : SqL X.K H0 b ys) (hl : xs.length = ys.length) (hz : xs.length ≤ 1000000) (res : Value)
    {s : Shared} {H : Hp} {c : Nat} (L : LqI X pins σ z TI TO i1 i2 a b S xs ys H0 0 [] H s c) (hz0 : IsZip s.heap z TI TO .none)
    (hR : ∀ s' H' Ts' c', LpE X pins σ S xs ys H0 xs.length Ts' H' s' c' → R (.ok (.ret res)) s') {Qf : Fin → Shared → Prop} {Ef : Value → Shared → Prop} (hA : ∀ c' s', c'.quiet = true → codeAny (model X.prog X.w) A c' R s' → Qf (.again c') s') :
    wpAny (model X.prog X.w) A.in1 (Builtin.List.listExtendWith (.ref S) (.ref z) res) Qf Ef s := by
  have hTy : s.TypeIs (.ref z) "zip" := ⟨_, hz0, rfl⟩
  have hS2 := hS
  simp only [List.mem_cons, List.not_mem_nil, or_false, not_or] at hS2
  have hL := L.e.lst
  unfold Builtin.List.listExtendWith
  refine wpAny_bind (wpAny_typeOf hTy ?_)
  have h1 : Builtin.List.listSameRef (.ref S) (.ref z) = false := by simp [Builtin.List.listSameRef, hS2.1]
  have h2 : (Value.type "zip" == Value.type "list") = false := by decide
  have h3 : (Value.type "zip" == Value.type "tuple") = false := by decide
  simp only [h1, h2, h3, Bool.or_false, Bool.false_eq_true, if_false]
  refine wpAny_bind (wpAny_pyIter_zip hz0 ?_)
  refine wpAny_bind (wpAny_holding ?_)
  unfold Builtin.List.listLengthHint
  refine wpAny_bind (wpAny_specialOf hTy zip_no_len ?_)
  show wpAny _ A.in1 (specialOf (Value.ref z) (Str.ofString "__length_hint__") >>= _) _ _ _
  refine wpAny_bind (wpAny_specialOf hTy zip_no_hint ?_)
  refine wpAny_pure ?_
  show wpAny _ A.in1 (rule "list.extend.makes-room" >>= fun _ => Builtin.List.listTouch (.ref S) >>= fun _ =>
    again (.builtin "list.extend.loop" ⟨[.ref S, .ref z, res], []⟩)) _ _ _
  refine wpAny_bind (wpAny_rule ?_)
  refine wpAny_bind ?_
  show wpAny _ A.in1 (updateSeq S (·.push .none) >>= fun _ => updateSeq S (·.pop)) _ _ _
  refine wpAny_bind (wpAny_updateSeq hL rfl ?_)
  have e2 := Heap.get?_update_self (Obj.mapSeq (·.push Value.none)) hL rfl
  refine wpAny_updateSeq (hz := by seq_fits) e2 rfl ?_
  have e3 := Heap.get?_update_self (Obj.mapSeq (·.pop)) e2 rfl
  have oth : ∀ b o, b ≠ S → s.heap.get? b = some o → ((s.heap.update S (Obj.mapSeq (·.push Value.none))).update S (Obj.mapSeq (·.pop))).get? b = some o :=
    fun b o hb e => (Heap.get?_update_other _ _ (Ne.symm hb)).trans ((Heap.get?_update_other _ _ (Ne.symm hb)).trans e)
  have L3 := lq_touch (s := s) (tk := s.toks) (h' := (s.heap.update S (Obj.mapSeq (·.push Value.none))).update S (Obj.mapSeq (·.pop))) hS L (by rw [(Heap.SameBut.update ..).1, (Heap.SameBut.update ..).1]; exact Nat.le_refl _) oth e3
  exact wpAny_pure (hA _ _ (plainId_quiet F.plain_extend_loop _) (lq_loop hh D hS qx qy hl hz res xs.length 0 _ H [] _ (by omega) (Nat.zero_le _) L3 hR))
theorem lq_collect {A : Around} {Q : List Value → Shared → Prop} {E : Value → Shared → Prop} (hh : A.handled = none) (D : ZipApart z TI TO i1 i2 a b) {s : Shared} (qx : SqL X.K H0 a xs) (qy : SqL X.K H0 b ys) (hl : xs.length = ys.length) (hz : xs.length ≤ 1000000)
    (I : Inv X pins σ H0 s) (fp : ∀ c ∈ [z, TI, TO, i1, i2], FpOk X pins H0 c) (lt : ∀ c ∈ [z, TI, TO, i1, i2], c < s.heap.objs.size) (tie : IsTupOf2 s.heap TI (.ref i1) (.ref i2)) (it1 : s.heap.IsListIter i1 a 0) (it2 : s.heap.IsListIter i2 b 0)
    (hz0 : IsZip s.heap z TI TO .none) {u v : Value} (hTO : IsTupOf2 s.heap TO u v)
    (hQ : ∀ s' H' Ts' c', LpE X pins σ s.heap.objs.size xs ys H0 xs.length Ts' H' s' c' → Q (Ts'.map Value.ref) s') : wpAny (model X.prog X.w) A (collect (.ref z)) Q E s := by
  unfold collect
  refine wpAny_bind (wpAny_runValue (codeAny_builtin F.entry_proto_collect ?_))
  rw [Around.under_plainId F.plain_proto_collect _]
  show wpAny _ A.in1 (newList [] >>= fun l => again (.builtin "list.__iadd__" ⟨[l, .ref z], []⟩)) _ _ s
  refine wpAny_bind (wpAny_newObj_type ?_)
  refine wpAny_pure ⟨plainId_quiet F.plain_list_iadd _, codeAny_builtin F.entry_list_iadd ?_⟩
  rw [Around.under_plainId F.plain_list_iadd _]
  have hS : s.heap.objs.size ∉ [z, TI, TO, i1, i2] := fun h => Nat.lt_irrefl _ (lt _ h)
  have oth : ∀ c o, s.heap.get? c = some o → (s.heap.push { cls := .type "list", data := .seq ([] : List Value).toArray }).get? c = some o := fun c o e => Heap.get?_push_of_some _ e
  have L : LqI X pins σ z TI TO i1 i2 a b s.heap.objs.size xs ys H0 0 [] H0 { s with heap := s.heap.push { cls := .type "list", data := .seq ([] : List Value).toArray } } _ :=
    ⟨⟨I.kept (t' := s.toks) oth, Same.refl _, rfl, fun j t h => (by cases h), Heap.get?_push_size _ rfl, I.fpOk (Nat.le_refl _) (I.hok.fresh (Nat.le_refl _))⟩, fp, fun c hc => Nat.lt_of_lt_of_le (lt c hc) (by rw [Heap.size_push]; exact Nat.le_succ _), oth _ _ tie, it1.at fun o q => oth _ o q, it2.at fun o q => oth _ o q, .inl ⟨oth _ _ hz0, _, _, oth _ _ hTO⟩⟩
  show wpAny _ A.in1 (Builtin.List.listExtendWith (.ref s.heap.objs.size) (.ref z) (.ref s.heap.objs.size)) _ _ _
  refine lq_extend (hA := fun c' s' h1 h2 => ⟨h1, h2⟩) hh D hS qx qy hl hz (.ref s.heap.objs.size) L (oth _ _ hz0) fun s' H' Ts' c' L' => ?_
  show wpAny _ A (load s.heap.objs.size >>= _) _ _ s'
  refine wpAny_bind (wpAny_load L'.lst ?_)
  exact wpAny_pure (hQ s' H' Ts' c' L')
theorem lq_tuple {A : Around} {Q : Value → Shared → Prop} {E : Value → Shared → Prop} (hh : A.handled = none) (D : ZipApart z TI TO i1 i2 a b) {s : Shared} (qx : SqL X.K H0 a xs) (qy : SqL X.K H0 b ys) (hl : xs.length = ys.length) (hz : xs.length ≤ 1000000)
    (I : Inv X pins σ H0 s) (fp : ∀ c ∈ [z, TI, TO, i1, i2], FpOk X pins H0 c) (lt : ∀ c ∈ [z, TI, TO, i1, i2], c < s.heap.objs.size) (tie : IsTupOf2 s.heap TI (.ref i1) (.ref i2)) (it1 : s.heap.IsListIter i1 a 0) (it2 : s.heap.IsListIter i2 b 0)
    (hz0 : IsZip s.heap z TI TO .none) {u v : Value} (hTO : IsTupOf2 s.heap TO u v)
    (hQ : ∀ s' H' Ts' c', LpE X pins σ s.heap.objs.size xs ys H0 xs.length Ts' H' s' c' → Q (.ref s'.heap.objs.size) { s' with heap := s'.heap.push { cls := .type "tuple", data := .seq (Ts'.map Value.ref).toArray } }) :
    codeAny (model X.prog X.w) A (.call (.builtin "tuple.__new__") ⟨[.type "tuple", .ref z], []⟩) (wants Q E) s := by
  refine codeAny_of_tree ?_
  show wpAny _ A.in1 (do checkBuiltinCall "tuple.__new__" ⟨[.type "tuple", .ref z], []⟩; again (.builtin "tuple.__new__" ⟨[.type "tuple", .ref z], []⟩)) _ _ s
  refine wpAny_bind (wpAny_of_eq (F.newCall_tuple_1 _) (wpAny_pure ⟨plainId_quiet F.plain_tuple_new _, codeAny_builtin F.entry_tuple_new ?_⟩))
  rw [Around.under_plainId F.plain_tuple_new _]
  have hsub := sub_tuple_self
  have hinit := init_tuple_lookup
  have hmh := madeHere_tuple
  have hTI : s.TypeIs (.ref z) "zip" := ⟨_, hz0, rfl⟩
  wp_walk using wpAny_typeOf hTI, lq_collect (A := A.in1) hh D qx qy hl hz I fp lt tie it1 it2 hz0 hTO
  intro s' H' Ts' c' L'
  show wpAny _ _ (Builtin.Tuple.tupleExact (Ts'.map Value.ref).toArray >>= fun v => ret v) _ _ _
  unfold Builtin.Tuple.tupleExact
  refine wpAny_bind (wpAny_newObj_type ?_ (by show (Ts'.map Value.ref).toArray.size ≤ sizeLine; rw [List.size_toArray, List.length_map, L'.len, sizeLine_eq]; omega))
  refine wpAny_pure ?_
  exact hQ s' H' Ts' c' L'
theorem lq_call {A : Around} {Q : Value → Shared → Prop} {E : Value → Shared → Prop} (hh : A.handled = none) (D : ZipApart z TI TO i1 i2 a b) {s : Shared} (qx : SqL X.K H0 a xs) (qy : SqL X.K H0 b ys) (hl : xs.length = ys.length) (hz : xs.length ≤ 1000000)
    (I : Inv X pins σ H0 s) (fp : ∀ c ∈ [z, TI, TO, i1, i2], FpOk X pins H0 c) (lt : ∀ c ∈ [z, TI, TO, i1, i2], c < s.heap.objs.size) (tie : IsTupOf2 s.heap TI (.ref i1) (.ref i2)) (it1 : s.heap.IsListIter i1 a 0) (it2 : s.heap.IsListIter i2 b 0)
    (hz0 : IsZip s.heap z TI TO .none) {u v : Value} (hTO : IsTupOf2 s.heap TO u v)
    (hQ : ∀ s' H' Ts' c', LpE X pins σ s.heap.objs.size xs ys H0 xs.length Ts' H' s' c' → Q (.ref s'.heap.objs.size) { s' with heap := s'.heap.push { cls := .type "tuple", data := .seq (Ts'.map Value.ref).toArray } }) :
    wpAny (model X.prog X.w) A (call (.type "tuple") [.ref z]) Q E s := by
  refine callType_codes (Q₁ := fun obj s₁ => s₁.TypeIs obj "tuple" ∧ Q obj s₁) F.called_tuple (F.typeCall_tuple_1 _) F.entry_object_init
    (lq_tuple (A := A.in1) hh D qx qy hl hz I fp lt tie it1 it2 hz0 hTO fun s' H' Ts' c' L' => ⟨⟨_, Heap.get?_push_size _ rfl, rfl⟩, hQ s' H' Ts' c' L'⟩) fun obj s₁ h₁ => ?_
  exact ⟨h₁.1, F.args_object_init_2 obj _, object_init_meets F.called_tuple.init.lookup F.called_tuple.made (by decide) X.prog X.w A.in1 _ s₁ ⟨h₁.1, rfl, h₁.2⟩⟩
end
def tTupZip (K : PySem.W.Frag) (ta : TA) : TE := fun σ H Q => ta σ H fun vs H1 => ∃ (a b : Addr) (xs ys : List V), vs = [.ref a, .ref b] ∧ SqL K H1 a xs ∧ SqL K H1 b ys ∧ xs.length = ys.length ∧ xs.length ≤ 1000000 ∧
  ∀ (p : Addr) (Ts : List Addr) (H' : Hp), Same H1 H' → Ts.length = xs.length → (∀ (j : Nat) (t : Addr), Ts[j]? = some t → ∃ x y, xs[j]? = some x ∧ ys[j]? = some y ∧ H' t = some (.tup [x, y]) ∧ H1 t = none) → H' p = none → Q (.ref p) (upd H' p (.tup (Ts.map V.ref)))
theorem pe_tupZip {X : Cx} {e e2 : Expr} {ta : TA} {p pos p2 pos2 : Pos} (hcalm : X.calm = true) (hgl : Gl X "tuple") (hml : X.mg "tuple" = none) (hg : Gl X "zip") (hm : X.mg "zip" = none) (ha : PA X [e, e2] ta)
    (hs : starEach [e, e2] X.env = (false, eval e X.env) :: starEach [e2] X.env := by rfl) (hpl : (backTo pos2 (starEach [e2] X.env)).any (·.1) = false := by rfl)
    (na : starEach [(.Call (.Name "zip" p2) [e, e2] [] pos2 : Expr)] X.env = (false, eval (.Call (.Name "zip" p2) [e, e2] [] pos2) X.env) :: starEach [] X.env := by rfl) :
    PE X (.Call (.Name "tuple" p) [.Call (.Name "zip" p2) [e, e2] [] pos2] [] pos) (tTupZip X.K ta) := by
  refine ⟨fun pins s σ H Q I h => ?_⟩
  refine Call_ (ld_blt I hgl hml (show bootBuiltins "tuple" = some (.type "tuple") by decide +kernel) (PyProof.Rows.callWith_type1 (args_cons ?_ na) na))
  refine Call_ (ld_blt I hg hm PyProof.Rows.boot_zip (PyProof.Rows.callWith_type1 (thn (ha.run pos2 pins s σ H _ I h) fun us s1 ⟨vs, H1, I1, r1, q1⟩ => ?_) hs hpl))
  obtain ⟨a, b, xs, ys, ex, hqx, hqy, hl, hz, q⟩ := q1
  subst ex
  obtain ⟨u, u2, rfl, r, r2⟩ : ∃ u u2, us = [u, u2] ∧ RelV (.ref a) u ∧ RelV (.ref b) u2 := by
    cases r1 with
    | cons r rr => cases rr with
      | cons r' rr => cases rr; exact ⟨_, _, rfl, r, r'⟩
  obtain rfl : u = Value.ref a := r
  obtain rfl : u2 = Value.ref b := r2
  obtain ⟨its, rv, p1, _⟩ := I1.list hqx
  obtain ⟨its2, rv2, p2, _⟩ := I1.list hqy
  refine zip_begins2 (begins_list a its.toArray) (begins_list b its2.toArray) p1.isList p2.isList fun h' hz0 hTI hTO h1 h2 hsz hk => args_nil ?_
  have I2 : Inv X pins σ H1 { s1 with heap := h' } := I1.kept (t' := s1.toks) hk
  have mem : ∀ c ∈ [s1.heap.objs.size + 4, s1.heap.objs.size + 2, s1.heap.objs.size + 3, s1.heap.objs.size, s1.heap.objs.size + 1], s1.heap.objs.size ≤ c ∧ c < h'.objs.size := fun c hcm => by
    simp only [List.mem_cons, List.not_mem_nil, or_false] at hcm
    rw [hsz]
    rcases hcm with rfl | rfl | rfl | rfl | rfl
    · exact ⟨Nat.le_add_right _ _, Nat.add_lt_add_left (by decide) _⟩
    · exact ⟨Nat.le_add_right _ _, Nat.add_lt_add_left (by decide) _⟩
    · exact ⟨Nat.le_add_right _ _, Nat.add_lt_add_left (by decide) _⟩
    · exact ⟨Nat.le_refl _, Nat.lt_add_of_pos_right (by decide)⟩
    · exact ⟨Nat.le_add_right _ _, Nat.add_lt_add_left (by decide) _⟩
  refine lq_call (I2.ok.hd hcalm) (PySem.W.ktu_apart s1.heap.objs.size a b p1.lt p2.lt) hqx hqy hl hz I2 (fun c hc => I1.fpOk (mem c hc).1 (I1.hok.fresh (mem c hc).1)) (fun c hc => (mem c hc).2) hTI ⟨_, h1, rfl, rfl⟩ ⟨_, h2, rfl, rfl⟩ hz0 hTO fun s' H' Ts' c' L' => ?_
  have vr : ∀ l : List Addr, Vals (l.map V.ref) (l.map Value.ref) := fun l => by
    induction l with
    | nil => exact .nil
    | cons t r ih => exact .cons rfl ih
  refine ⟨.ref _, _, L'.inv.laid (t' := s'.toks) (o := .tup (Ts'.map V.ref)) (fun b ob q => Heap.get?_push_of_some _ q) (Nat.le_refl _) ?_, rfl, q _ Ts' H' L'.same L'.len L'.tup (L'.inv.hok.fresh (Nat.le_refl _))⟩
  exact ⟨by rw [List.length_map, L'.len, sizeLine_eq]; omega, _, vr Ts', IsTup.new _ _⟩
end
/-! ### a rule: xs[lo:hi:step] of a list -/
section
open PySem.Spec PyProof.Rows
def pickV (xs : List V) (lo hi st : Option Int) : List V := (sliceRange (sliceBounds lo hi st xs.length).1 (sliceBounds lo hi st xs.length).2.1 (sliceBounds lo hi st xs.length).2.2).filterMap (xs[·]?)
theorem vals_pick {xs : List V} {its : List Value} (r : Vals xs its) : ∀ L : List Nat, Vals (L.filterMap (xs[·]?)) (L.filterMap (its[·]?))
  | [] => .nil
  | i :: L => by
    have ih := vals_pick r L
    rw [List.filterMap_cons, List.filterMap_cons]
    cases e : xs[i]? with
    | none =>
      have h1 := List.getElem?_eq_none_iff.mp e
      rw [List.getElem?_eq_none_iff.mpr (by rw [← r.length]; exact h1)]
      exact ih
    | some x =>
      obtain ⟨u, hu, ru⟩ := r.get e
      rw [hu]
      exact .cons ru ih
def tSl3 (K : PySem.W.Frag) (te : TE) (tl th ts : TO) : TE := fun σ H Q => te σ H fun x H1 => tl σ H1 fun l H2 => th σ H2 fun u H3 => ts σ H3 fun c H4 =>
  ∃ a xs, x = .ref a ∧ SqL K H4 a xs ∧ c ≠ some 0 ∧ (pickV xs l u c).length ≤ sizeLine ∧ ∀ p, H4 p = none → Q (.ref p) (upd H4 p (.lst (pickV xs l u c)))
theorem pe_slice3 {X : Cx} {e : Expr} {lo hi : Option Expr} {st : Expr} {p2 pos : Pos} {te : TE} {tl th ts : TO} (he : PE X e te) (hl : PO X lo tl) (hu : PO X hi th) (hst : PO X (some st) ts) : PE X (.Subscript e (.Slice lo hi (some st) p2) pos) (tSl3 X.K te tl th ts) := by
  refine ⟨fun pins s σ H Q I h => ?_⟩
  refine Subscript_ (thn (he.run pins s σ H _ I h) fun v s1 ⟨x, H1, I1, r1, q1⟩ => ?_)
  refine wpAny_Slice (thn (hl.run pins s1 σ H1 _ I1 q1) fun vl s2 ⟨l, H2, I2, pl, q2⟩ => thn (hu.run pins s2 σ H2 _ I2 q2) fun vu s3 ⟨u, H3, I3, pu, q3⟩ => thn (hst.run pins s3 σ H3 _ I3 q3) fun vs s4 ⟨c, H4, I4, pc, q4⟩ => ?_)
  obtain ⟨a, xs, rfl, hx, h0, hz0, q⟩ := q4
  have I5 : Inv X pins σ H4 { s4 with heap := s4.heap.push { cls := .type "slice", data := .fields #[vl, vu, vs] } } := I4.kept (t' := s4.toks) fun b ob q => Heap.get?_push_of_some _ q
  cases r1
  obtain ⟨its, r, ht, hz⟩ := I5.list hx
  have hlen := r.length
  have hs : Heap.IsSliceOf (s4.heap.push { cls := .type "slice", data := .fields #[vl, vu, vs] }) s4.heap.objs.size vl vu vs := Heap.IsSliceOf.new ..
  have hg : wpAny (model X.prog X.w) X.A (getItem (.ref a) (.ref s4.heap.objs.size)) (EP X pins σ Q) X.xe { s4 with heap := s4.heap.push { cls := .type "slice", data := .fields #[vl, vu, vs] } } := by
    refine wpAny_getItem_list_slice ht.isList hs pl pu pc h0 ?_ (by rw [List.size_toArray] <;> omega)
    have e : slicePick its.toArray l u c = ((sliceRange (sliceBounds l u c xs.length).1 (sliceBounds l u c xs.length).2.1 (sliceBounds l u c xs.length).2.2).filterMap (its[·]?)).toArray := by
      unfold slicePick
      rw [List.size_toArray, ← hlen]
      congr 2
      funext i
      simp
    rw [e]
    refine ⟨.ref _, _, I5.laid (t' := s4.toks) (o := .lst (pickV xs l u c)) (fun b ob q => Heap.get?_push_of_some _ q) (Nat.le_refl _) ?_, rfl, q _ (I5.hok.fresh (Nat.le_refl _))⟩
    exact ⟨hz0, _, 0, vals_pick r _, Heap.get?_push_size _ rfl⟩
  show wpAny (model X.prog X.w) X.A (subscriptTail e (.Slice lo hi (some st) p2) (.ref a) (.ref s4.heap.objs.size)) (EP X pins σ Q) X.xe { s4 with heap := s4.heap.push { cls := .type "slice", data := .fields #[vl, vu, vs] } }
  exact tail_any (ops := [.ref a, .ref s4.heap.objs.size]) ht.isList.typeIs slot_list_getitem.lookup hg (by with_unfolding_all rfl)
/-! every second item -/
def evens {α : Type} : List α → List α
  | a :: _ :: t => a :: evens t
  | [a] => [a]
  | [] => []
def odds {α : Type} : List α → List α
  | _ :: b :: t => b :: odds t
  | _ => []
theorem pick_evens {α : Type} : ∀ xs : List α, ((List.range ((xs.length + 1) / 2)).map (2 * ·)).filterMap (xs[·]?) = evens xs
  | [] => by simp [evens]
  | [a] => by simp [evens, List.range_succ]
  | a :: b :: t => by
    have e : ((a :: b :: t).length + 1) / 2 = (t.length + 1) / 2 + 1 := by simp only [List.length_cons]; omega
    rw [e, List.range_succ_eq_map, List.map_cons, List.filterMap_cons]
    show a :: _ = a :: evens t
    rw [← pick_evens t, List.map_map, List.filterMap_map, List.filterMap_map]
    congr 1
theorem pick_odds {α : Type} : ∀ xs : List α, ((List.range (xs.length / 2)).map (fun k => 1 + 2 * k)).filterMap (xs[·]?) = odds xs
  | [] => by simp [odds]
  | [a] => by simp [odds]
  | a :: b :: t => by
    have e : (a :: b :: t).length / 2 = t.length / 2 + 1 := by simp only [List.length_cons]; omega
    rw [e, List.range_succ_eq_map, List.map_cons, List.filterMap_cons]
    show b :: _ = b :: odds t
    rw [← pick_odds t, List.map_map, List.filterMap_map, List.filterMap_map]
    congr 1
theorem pickV_evens (xs : List V) : pickV xs none none (some 2) = evens xs := by
  rw [← pick_evens xs]
  unfold pickV
  congr 1
  show sliceRange 0 (xs.length : Int) 2 = _
  unfold sliceRange
  rw [if_pos (by decide)]
  dsimp only
  have e : (if (0 : Int) < (xs.length : Int) then ((xs.length : Int) - 0 + 2 - 1) / 2 else 0).toNat = (xs.length + 1) / 2 := by
    split <;> omega
  rw [e]
  refine List.map_congr_left fun k _ => ?_
  show (0 + 2 * (k : Int)).toNat = 2 * k
  omega
theorem pickV_odds (xs : List V) : pickV xs (some 1) none (some 2) = odds xs := by
  rw [← pick_odds xs]
  unfold pickV
  congr 1
  have eb : sliceBounds (some 1) none (some 2) xs.length = (max 0 (min 1 (xs.length : Int)), (xs.length : Int), 2) := rfl
  rw [eb]
  show sliceRange (max 0 (min 1 (xs.length : Int))) (xs.length : Int) 2 = _
  unfold sliceRange
  rw [if_pos (by decide)]
  dsimp only
  have e : (if max 0 (min 1 (xs.length : Int)) < (xs.length : Int) then ((xs.length : Int) - max 0 (min 1 (xs.length : Int)) + 2 - 1) / 2 else 0).toNat = xs.length / 2 := by
    split <;> omega
  rw [e]
  refine List.map_congr_left fun k hk => ?_
  have := List.mem_range.mp hk
  show (max 0 (min 1 (xs.length : Int)) + 2 * (k : Int)).toNat = 1 + 2 * k
  omega
theorem evens_map {α β : Type} (f : α → β) : ∀ xs : List α, evens (xs.map f) = (evens xs).map f
  | [] => rfl
  | [_] => rfl
  | a :: _ :: t => congrArg (f a :: ·) (evens_map f t)
theorem odds_map {α β : Type} (f : α → β) : ∀ xs : List α, odds (xs.map f) = (odds xs).map f
  | [] => rfl
  | [_] => rfl
  | _ :: b :: t => congrArg (f b :: ·) (odds_map f t)
theorem evens_len {α : Type} : ∀ xs : List α, (evens xs).length = (xs.length + 1) / 2
  | [] => by simp [evens]
  | [_] => by simp [evens]
  | _ :: _ :: t => by show (evens t).length + 1 = (t.length + 1 + 1 + 1) / 2; rw [evens_len t]; omega
theorem odds_len {α : Type} : ∀ xs : List α, (odds xs).length = xs.length / 2
  | [] => by simp [odds]
  | [_] => by simp [odds]
  | _ :: _ :: t => by show (odds t).length + 1 = (t.length + 1 + 1) / 2; rw [odds_len t]; omega
end
/-! ### bands made one: any rows -/
theorem joinM_u {bs : List Band} (R0 : Rows bLo bHi bs) (hg : ∀ b ∈ bs, Gap b.2.2) : CanU (joinM bs) := by
  have R := R0.filter fun b => !b.2.2.isEmpty
  obtain ⟨h1, h2⟩ := merge_rows bdC bdJ (lo := bLo) (hi := bHi) (fun _ _ => rfl) (fun _ _ => rfl) _ _ rfl R
  have pay : ∀ z ∈ joinM bs, ∃ q ∈ bs.filter (fun b => !b.2.2.isEmpty), z.2.2 = q.2.2 := fun z hz => merge_pay bdC bdJ (fun b : Band => b.2.2) (fun _ _ => rfl) _ _ rfl z hz
  refine ⟨h1, fun z hz => ?_, merge_chain bdC bdJ (fun r p q h => by
    unfold bdC at h ⊢
    rw [Bool.and_eq_true, decide_eq_true_eq, decide_eq_true_eq] at h
    show (decide (r.2.1 = p.1) && decide (r.2.2 = q.2.2)) = (decide (r.2.1 = p.1) && decide (r.2.2 = p.2.2))
    rw [h.2]) _ _ rfl, fun z hz => ?_⟩
  · obtain ⟨q, hq, e⟩ := pay z hz
    rw [e]
    exact hg q (List.mem_filter.mp hq).1
  · obtain ⟨q, hq, e⟩ := pay z hz
    have hn := (List.mem_filter.mp hq).2
    rw [e]
    intro h0
    rw [h0] at hn
    exact absurd hn (by decide)
theorem joinM_mem {bs : List Band} (R0 : Rows bLo bHi bs) : ∀ z ∈ joinM bs, (∃ p ∈ bs, z.1 = p.1) ∧ (∃ q ∈ bs, z.2.1 = q.2.1) ∧ ∃ q ∈ bs, z.2.2 = q.2.2 := by
  have R := R0.filter fun b => !b.2.2.isEmpty
  obtain ⟨_, h2⟩ := merge_rows bdC bdJ (lo := bLo) (hi := bHi) (fun _ _ => rfl) (fun _ _ => rfl) _ _ rfl R
  intro z hz
  obtain ⟨p, hp, q, hq, e1, e2⟩ := h2 z hz
  obtain ⟨r, hr, e3⟩ := merge_pay bdC bdJ (fun b : Band => b.2.2) (fun _ _ => rfl) _ _ rfl z hz
  exact ⟨⟨p, (List.mem_filter.mp hp).1, e1⟩, ⟨q, (List.mem_filter.mp hq).1, e2⟩, ⟨r, (List.mem_filter.mp hr).1, e3⟩⟩
theorem joinM_sq {bs : List Band} (R0 : Rows bLo bHi bs) (hg : ∀ b ∈ bs, Gap b.2.2) (x y : Int) : hasSq (joinM bs) x y = bs.any (covB x y) := by
  have R := R0.filter fun b => !b.2.2.isEmpty
  have m := (merge_any bdC bdJ (covB x y) (fun b => b.1 < b.2.1) (fun p q hp hq hc => by
    unfold bdC at hc
    rw [Bool.and_eq_true, decide_eq_true_eq, decide_eq_true_eq] at hc
    refine ⟨by show p.1 < q.2.1; omega, ?_⟩
    show (decide (p.1 ≤ y ∧ y < q.2.1) && inS q.2.2 x) = ((decide (p.1 ≤ y ∧ y < p.2.1) && inS p.2.2 x) || (decide (q.1 ≤ y ∧ y < q.2.1) && inS q.2.2 x))
    rw [hc.2, ← Bool.and_or_distrib_right, ← Bool.decide_or]
    congr 2
    refine propext ⟨fun h => ?_, fun h => ?_⟩ <;> omega) _ _ rfl R.pos).2
  rw [hasSq_any (joinM_u R0 hg).rows]
  show (merge bdC bdJ _).any _ = _
  rw [m, any_filter']
  refine congrArg (fun f => bs.any f) (funext fun b => ?_)
  unfold covB
  cases b.2.2 with
  | nil => simp [inS]
  | cons _ _ => simp
/-! ### how many of some numbers are at most another one, even or odd -/
def par (L : List Int) (x : Int) : Bool := L.foldr (fun m b => decide (m ≤ x) ^^ b) false
theorem par_cons (m : Int) (L : List Int) (x : Int) : par (m :: L) x = (decide (m ≤ x) ^^ par L x) := rfl
theorem par_app (L M : List Int) (x : Int) : par (L ++ M) x = (par L x ^^ par M x) := by
  induction L with
  | nil => simp [par]
  | cons m L ih => rw [List.cons_append, par_cons, par_cons, ih, Bool.xor_assoc]
theorem par_erase {L : List Int} {m : Int} (h : m ∈ L) (x : Int) : par (L.erase m) x = (decide (m ≤ x) ^^ par L x) := by
  induction L with
  | nil => cases h
  | cons k L ih =>
    by_cases e : k = m
    · subst e
      rw [List.erase_cons_head, par_cons, ← Bool.xor_assoc, Bool.xor_self, Bool.false_xor]
    · rw [List.erase_cons_tail (by simpa using e), par_cons, par_cons, ih (by
        rcases List.mem_cons.mp h with h | h
        · exact absurd h.symm e
        · exact h)]
      rw [← Bool.xor_assoc, ← Bool.xor_assoc, Bool.xor_comm (decide (k ≤ x))]
def tog (ks : List Int) (m : Int) : List Int := if m ∈ ks then ks.erase m else ks ++ [m]
theorem tog_par (ks : List Int) (m x : Int) : par (tog ks m) x = (par ks x ^^ decide (m ≤ x)) := by
  unfold tog
  split
  · rename_i h; rw [par_erase h, Bool.xor_comm]
  · rw [par_app]; simp [par]
theorem tog_nodup {ks : List Int} (h : ks.Nodup) (m : Int) : (tog ks m).Nodup := by
  unfold tog
  split
  · exact h.erase m
  · rename_i hm
    refine List.nodup_append.mpr ⟨h, by simp, fun a ha b hb => ?_⟩
    rw [List.mem_singleton.mp hb]
    intro e; subst e; exact hm ha
theorem tog_mem {ks : List Int} {m k : Int} (h : k ∈ tog ks m) : k ∈ ks ∨ k = m := by
  unfold tog at h
  split at h
  · exact .inl (List.mem_of_mem_erase h)
  · simpa using h
theorem tog_len (ks : List Int) (m : Int) : ((tog ks m).length + ks.length) % 2 = 1 := by
  unfold tog
  split
  · rename_i h
    have := List.length_pos_of_mem h
    rw [List.length_erase_of_mem h]; omega
  · rw [List.length_append]; simp; omega
def togs (ks L : List Int) : List Int := L.foldl tog ks
theorem togs_par (L : List Int) : ∀ (ks : List Int) (x : Int), par (togs ks L) x = (par ks x ^^ par L x) := by
  induction L with
  | nil => intro ks x; simp [togs, par]
  | cons m L ih => intro ks x; show par (togs (tog ks m) L) x = _; rw [ih, tog_par, par_cons, Bool.xor_assoc]
theorem togs_nodup (L : List Int) : ∀ {ks : List Int}, ks.Nodup → (togs ks L).Nodup := by
  induction L with
  | nil => intro ks h; exact h
  | cons m L ih => intro ks h; exact ih (tog_nodup h m)
theorem togs_mem (L : List Int) : ∀ {ks : List Int} {k : Int}, k ∈ togs ks L → k ∈ ks ∨ k ∈ L := by
  induction L with
  | nil => intro ks k h; exact .inl h
  | cons m L ih =>
    intro ks k h
    rcases ih h with h | h
    · rcases tog_mem h with h | h
      · exact .inl h
      · exact .inr (by rw [h]; exact List.mem_cons_self)
    · exact .inr (List.mem_cons_of_mem _ h)
theorem togs_len (L : List Int) : ∀ (ks : List Int), ((togs ks L).length + ks.length + L.length) % 2 = 0 := by
  induction L with
  | nil => intro ks; show (ks.length + ks.length + 0) % 2 = 0; omega
  | cons m L ih =>
    intro ks
    have h1 := ih (tog ks m)
    have h2 := tog_len ks m
    show ((togs (tog ks m) L).length + ks.length + (L.length + 1)) % 2 = 0
    omega
theorem par_perm {L M : List Int} (h : L.Perm M) (x : Int) : par L x = par M x := by
  induction h with
  | nil => rfl
  | cons m _ ih => rw [par_cons, par_cons, ih]
  | swap a b l => rw [par_cons, par_cons, par_cons, par_cons, ← Bool.xor_assoc, ← Bool.xor_assoc, Bool.xor_comm (decide (b ≤ x))]
  | trans _ _ i j => exact i.trans j
/-- the spans between the first and the second, the third and the fourth .. -/
def pairsOf : List Int → List Span
  | a :: b :: t => (a, b) :: pairsOf t
  | _ => []
theorem pairsOf_mem : ∀ {ps : List Int} {s : Span}, s ∈ pairsOf ps → s.1 ∈ ps ∧ s.2 ∈ ps
  | [], _, h => by cases h
  | [_], _, h => by cases h
  | a :: b :: t, s, h => by
    rcases List.mem_cons.mp h with rfl | h
    · exact ⟨List.mem_cons_self, List.mem_cons_of_mem _ List.mem_cons_self⟩
    · obtain ⟨h1, h2⟩ := pairsOf_mem h
      exact ⟨List.mem_cons_of_mem _ (List.mem_cons_of_mem _ h1), List.mem_cons_of_mem _ (List.mem_cons_of_mem _ h2)⟩
theorem pairsOf_gap : ∀ {ps : List Int}, ps.Pairwise (· < ·) → Gap (pairsOf ps)
  | [], _ => ⟨fun s h => (by cases h), List.Pairwise.nil⟩
  | [_], _ => ⟨fun s h => (by cases h), List.Pairwise.nil⟩
  | a :: b :: t, h => by
    have h1 := List.pairwise_cons.mp h
    have h2 := List.pairwise_cons.mp h1.2
    have g := pairsOf_gap h2.2
    refine ⟨fun s hs => ?_, List.pairwise_cons.mpr ⟨fun s hs => ?_, g.gap⟩⟩
    · rcases List.mem_cons.mp hs with rfl | hs
      · exact h1.1 b List.mem_cons_self
      · exact g.pos s hs
    · exact h2.1 s.1 (pairsOf_mem hs).1
theorem par_above : ∀ {ps : List Int} {x : Int}, (∀ p ∈ ps, x < p) → par ps x = false
  | [], _, _ => rfl
  | p :: t, x, h => by
    have hp := h p List.mem_cons_self
    rw [par_cons, par_above fun q hq => h q (List.mem_cons_of_mem _ hq), decide_eq_false (by omega)]; rfl
theorem pairsOf_in : ∀ {ps : List Int}, ps.Pairwise (· < ·) → ps.length % 2 = 0 → ∀ x, inS (pairsOf ps) x = par ps x
  | [], _, _, _ => rfl
  | [_], _, h, _ => by cases h
  | a :: b :: t, h, hl, x => by
    have h1 := List.pairwise_cons.mp h
    have h2 := List.pairwise_cons.mp h1.2
    have hab := h1.1 b List.mem_cons_self
    have hl' : t.length % 2 = 0 := by
      have : (t.length + 1 + 1) % 2 = 0 := hl
      omega
    have ih := pairsOf_in h2.2 hl' x
    show (decide (a ≤ x ∧ x < b) || inS (pairsOf t) x) = _
    rw [ih, par_cons, par_cons]
    by_cases hb : x < b
    · rw [par_above (ps := t) fun q hq => by have := h2.1 q hq; omega, Bool.or_false, decide_eq_false (show ¬ b ≤ x by omega), Bool.xor_false, Bool.xor_false]
      congr 1
      exact propext ⟨fun z => z.1, fun z => ⟨z, hb⟩⟩
    · rw [decide_eq_false (show ¬ (a ≤ x ∧ x < b) by omega), decide_eq_true (show a ≤ x by omega), decide_eq_true (show b ≤ x by omega), Bool.false_or, ← Bool.xor_assoc, Bool.xor_self, Bool.false_xor]
/-! ### the marks -/
abbrev Mk3 := Int × Int × Int
/-- what is kept of a list of (column, mark, mark): those of columns that p takes, at x -/
def pxS (L : List Mk3) (p : Int → Bool) (x : Int) : Bool := L.foldr (fun t b => (p t.1 && (decide (t.2.1 ≤ x) ^^ decide (t.2.2 ≤ x))) ^^ b) false
theorem pxS_cons (t : Mk3) (L : List Mk3) (p : Int → Bool) (x : Int) : pxS (t :: L) p x = ((p t.1 && (decide (t.2.1 ≤ x) ^^ decide (t.2.2 ≤ x))) ^^ pxS L p x) := rfl
theorem pxS_app (L M : List Mk3) (p : Int → Bool) (x : Int) : pxS (L ++ M) p x = (pxS L p x ^^ pxS M p x) := by
  induction L with
  | nil => simp [pxS]
  | cons m L ih => rw [List.cons_append, pxS_cons, pxS_cons, ih, Bool.xor_assoc]
theorem pxS_congr {L : List Mk3} {p q : Int → Bool} (h : ∀ t ∈ L, p t.1 = q t.1) (x : Int) : pxS L p x = pxS L q x := by
  induction L with
  | nil => rfl
  | cons t L ih => rw [pxS_cons, pxS_cons, h t List.mem_cons_self, ih fun u hu => h u (List.mem_cons_of_mem _ hu)]
theorem pxS_xor (L : List Mk3) (p q : Int → Bool) (x : Int) : pxS L (fun c => p c ^^ q c) x = (pxS L p x ^^ pxS L q x) := by
  induction L with
  | nil => rfl
  | cons t L ih =>
    rw [pxS_cons, pxS_cons, pxS_cons, ih]
    generalize pxS L p x = a
    generalize pxS L q x = b
    generalize (decide (t.2.1 ≤ x) ^^ decide (t.2.2 ≤ x)) = c
    generalize p t.1 = d
    generalize q t.1 = e
    revert a b c d e
    decide
/-- the marks of a column -/
def colM (L : List Mk3) (c : Int) : List Int := L.flatMap fun t => if t.1 = c then [t.2.1, t.2.2] else []
theorem colM_app (L M : List Mk3) (c : Int) : colM (L ++ M) c = colM L c ++ colM M c := List.flatMap_append
theorem colM_cons (t : Mk3) (L : List Mk3) (c : Int) : colM (t :: L) c = (if t.1 = c then [t.2.1, t.2.2] else []) ++ colM L c := rfl
theorem colM_par (L : List Mk3) (c x : Int) : par (colM L c) x = pxS L (fun k => decide (k = c)) x := by
  induction L with
  | nil => rfl
  | cons t L ih =>
    rw [colM_cons, par_app, ih, pxS_cons]
    by_cases e : t.1 = c
    · rw [if_pos e, decide_eq_true e, Bool.true_and, par_cons, par_cons]; simp [par]
    · rw [if_neg e, decide_eq_false e]; simp [par]
theorem colM_len (L : List Mk3) (c : Int) : (colM L c).length % 2 = 0 := by
  induction L with
  | nil => rfl
  | cons t L ih =>
    rw [colM_cons, List.length_append]
    by_cases e : t.1 = c
    · rw [if_pos e]; show (2 + _) % 2 = 0; omega
    · rw [if_neg e]; show (0 + _) % 2 = 0; omega
theorem colM_mem {L : List Mk3} {c k : Int} (h : k ∈ colM L c) : ∃ t ∈ L, t.1 = c ∧ (k = t.2.1 ∨ k = t.2.2) := by
  unfold colM at h
  obtain ⟨t, ht, hk⟩ := List.mem_flatMap.mp h
  by_cases e : t.1 = c
  · rw [if_pos e] at hk
    exact ⟨t, ht, e, by simpa using hk⟩
  · rw [if_neg e] at hk; cases hk
def tripS (h : Int) (b : Band) (s : Span) : List Mk3 := [(s.1, h - b.2.1, h - b.1), (s.2, h - b.2.1, h - b.1)]
def tripB (h : Int) (b : Band) : List Mk3 := b.2.2.flatMap (tripS h b)
def trip (h : Int) (R : List Band) : List Mk3 := R.flatMap (tripB h)
theorem trip_mem {h : Int} {R : List Band} {t : Mk3} (ht : t ∈ trip h R) : ∃ b ∈ R, ∃ s ∈ b.2.2, (t.1 = s.1 ∨ t.1 = s.2) ∧ t.2.1 = h - b.2.1 ∧ t.2.2 = h - b.1 := by
  obtain ⟨b, hb, h1⟩ := List.mem_flatMap.mp ht
  obtain ⟨s, hs, h2⟩ := List.mem_flatMap.mp h1
  unfold tripS at h2
  simp only [List.mem_cons, List.not_mem_nil, or_false] at h2
  rcases h2 with rfl | rfl
  · exact ⟨b, hb, s, hs, .inl rfl, rfl, rfl⟩
  · exact ⟨b, hb, s, hs, .inr rfl, rfl, rfl⟩
theorem inS_off {l : List Span} {x : Int} (h : ∀ s ∈ l, x < s.1) : inS l x = false := by
  rw [← Bool.not_eq_true]
  intro hx
  obtain ⟨s, hs, h1, _⟩ := inS_ex.mp hx
  have := h s hs
  omega
theorem pxB (h x z : Int) (b : Band) (hb : b.1 < b.2.1) : ∀ {l : List Span}, Gap l → pxS (l.flatMap (tripS h b)) (fun c => decide (c ≤ x)) z = (inS l x && decide (b.1 ≤ h - 1 - z ∧ h - 1 - z < b.2.1))
  | [], _ => rfl
  | s :: l, g => by
    have ih := pxB h x z b hb g.tail
    have ps := g.pos s List.mem_cons_self
    have eI : (decide (h - b.2.1 ≤ z) ^^ decide (h - b.1 ≤ z)) = decide (b.1 ≤ h - 1 - z ∧ h - 1 - z < b.2.1) := by
      by_cases c1 : h - b.1 ≤ z
      · rw [decide_eq_true c1, decide_eq_true (show h - b.2.1 ≤ z by omega), decide_eq_false (by omega)]; rfl
      · rw [decide_eq_false c1, Bool.xor_false]
        congr 1
        exact propext ⟨fun _ => by omega, fun _ => by omega⟩
    rw [List.flatMap_cons, pxS_app, ih]
    show ((decide (s.1 ≤ x) && (decide (h - b.2.1 ≤ z) ^^ decide (h - b.1 ≤ z))) ^^ ((decide (s.2 ≤ x) && (decide (h - b.2.1 ≤ z) ^^ decide (h - b.1 ≤ z))) ^^ false) ^^ (inS l x && _)) = ((decide (s.1 ≤ x ∧ x < s.2) || inS l x) && _)
    rw [eI]
    generalize decide (b.1 ≤ h - 1 - z ∧ h - 1 - z < b.2.1) = I
    by_cases c1 : s.1 ≤ x
    · by_cases c2 : s.2 ≤ x
      · rw [decide_eq_true c1, decide_eq_true c2, decide_eq_false (show ¬ (s.1 ≤ x ∧ x < s.2) by omega)]
        cases I <;> cases inS l x <;> rfl
      · rw [decide_eq_true c1, decide_eq_false c2, decide_eq_true (show s.1 ≤ x ∧ x < s.2 by omega), inS_off (l := l) fun q hq => by have := (List.pairwise_cons.mp g.gap).1 q hq; omega]
        cases I <;> rfl
    · rw [decide_eq_false c1, decide_eq_false (show ¬ s.2 ≤ x by omega), decide_eq_false (show ¬ (s.1 ≤ x ∧ x < s.2) by omega)]
      cases I <;> cases inS l x <;> rfl
theorem pxR (h x z : Int) : ∀ {R : List Band}, Rows bLo bHi R → (∀ b ∈ R, Gap b.2.2) → pxS (trip h R) (fun c => decide (c ≤ x)) z = hasSq R x (h - 1 - z)
  | [], _, _ => rfl
  | b :: R, r, g => by
    have r' : Rows bLo bHi R := ⟨fun q hq => r.pos q (List.mem_cons_of_mem _ hq), (List.pairwise_cons.mp r.ord).2⟩
    have pb : b.1 < b.2.1 := r.pos b List.mem_cons_self
    have ih := pxR h x z r' fun q hq => g q (List.mem_cons_of_mem _ hq)
    show pxS (tripB h b ++ trip h R) _ z = _
    rw [pxS_app, ih]
    unfold tripB
    rw [pxB h x z b pb (g b List.mem_cons_self)]
    show _ = if b.1 ≤ h - 1 - z ∧ h - 1 - z < b.2.1 then inS b.2.2 x else hasSq R x (h - 1 - z)
    by_cases c : b.1 ≤ h - 1 - z ∧ h - 1 - z < b.2.1
    · rw [if_pos c, decide_eq_true c, Bool.and_true]
      have off : hasSq R x (h - 1 - z) = false := by
        rw [← Bool.not_eq_true]
        intro e
        obtain ⟨q, hq, h1, _, _⟩ := (cov_ex r' x _).mp e
        have o : b.2.1 ≤ q.1 := (List.pairwise_cons.mp r.ord).1 q hq
        omega
      rw [off, Bool.xor_false]
    · rw [if_neg c, decide_eq_false c, Bool.and_false, Bool.false_xor]
/-- the bands of a turned region, column by column, from the marks -/
theorem turn_sq {h : Int} {R : List Band} (r : Rows bLo bHi R) (g : ∀ b ∈ R, Gap b.2.2) {es : List Int} (hp : es.Pairwise (· < ·)) (he : ∀ k, k ∈ es ↔ ∃ t ∈ trip h R, t.1 = k) {bs : List Band} (hl : bs.map (fun b => (b.1, b.2.1)) = segs es) (hg : ∀ b ∈ bs, Gap b.2.2)
    (hs : ∀ b ∈ bs, ∀ z, inS b.2.2 z = pxS (trip h R) (fun c => decide (c ≤ b.1)) z) : CanU (joinM bs) ∧ ∀ x y, hasSq (joinM bs) x y = hasSq R y (h - 1 - x) := by
  have rows : Rows bLo bHi bs := by
    have R2 := segs_rows hp
    rw [← hl] at R2
    refine ⟨fun q hq => R2.pos (q.1, q.2.1) (List.mem_map.mpr ⟨q, hq, rfl⟩), ?_⟩
    exact (List.pairwise_map.mp R2.ord)
  refine ⟨joinM_u rows hg, fun x y => ?_⟩
  rw [joinM_sq rows hg, ← pxR h y x r g]
  have mem : ∀ b ∈ bs, (b.1, b.2.1) ∈ segs es := fun b hb => by rw [← hl]; exact List.mem_map.mpr ⟨b, hb, rfl⟩
  by_cases c : ∃ b ∈ bs, b.1 ≤ y ∧ y < b.2.1
  · obtain ⟨b, hb, c1, c2⟩ := c
    have key : pxS (trip h R) (fun c => decide (c ≤ y)) x = inS b.2.2 x := by
      rw [hs b hb]
      refine pxS_congr (fun t ht => ?_) x
      have := (seg_mem hp (mem b hb)).2.1 t.1 ((he t.1).mpr ⟨t, ht, rfl⟩)
      congr 1
      refine propext ⟨fun _ => ?_, fun _ => ?_⟩ <;> omega
    rw [key]
    cases e : inS b.2.2 x with
    | true => exact List.any_eq_true.mpr ⟨b, hb, by unfold covB; rw [decide_eq_true ⟨c1, c2⟩, e]; rfl⟩
    | false =>
      refine List.any_eq_false.mpr fun q hq => ?_
      unfold covB
      by_cases d : q.1 ≤ y ∧ y < q.2.1
      · have : inS q.2.2 x = inS b.2.2 x := by
          rw [hs b hb, hs q hq]
          refine pxS_congr (fun t ht => ?_) x
          have m := (he t.1).mpr ⟨t, ht, rfl⟩
          have h1 := (seg_mem hp (mem b hb)).2.1 t.1 m
          have h2 := (seg_mem hp (mem q hq)).2.1 t.1 m
          congr 1
          refine propext ⟨fun _ => ?_, fun _ => ?_⟩ <;> omega
        rw [this, e]; simp
      · rw [decide_eq_false d]; simp
  · have off : bs.any (covB x y) = false := by
      refine List.any_eq_false.mpr fun q hq => ?_
      unfold covB
      rw [decide_eq_false (fun d => c ⟨q, hq, d⟩)]; simp
    rw [off]
    -- no column lies on both sides of y
    have side : (∀ t ∈ trip h R, t.1 ≤ y) ∨ ∀ t ∈ trip h R, y < t.1 := by
      by_cases d : ∃ t ∈ trip h R, y < t.1
      · refine .inr fun u hu => ?_
        obtain ⟨t, ht, h1⟩ := d
        have h0 : ¬ u.1 ≤ y := fun h2 => by
          obtain ⟨s, hs1, hs2⟩ := seg_ex ((he _).mpr ⟨u, hu, rfl⟩) ((he _).mpr ⟨t, ht, rfl⟩) h2 h1 hp
          rw [← hl] at hs1
          obtain ⟨b, hb, e⟩ := List.mem_map.mp hs1
          subst e
          exact c ⟨b, hb, hs2⟩
        omega
      · refine .inl fun t ht => ?_
        have : ¬ y < t.1 := fun z => d ⟨t, ht, z⟩
        omega
    rcases side with a | a
    · rw [pxR h y x r g]
      symm
      rw [← Bool.not_eq_true]
      intro e
      obtain ⟨b, hb, _, _, e2⟩ := (cov_ex r _ _).mp e
      obtain ⟨s, hs', h1, h2⟩ := inS_ex.mp e2
      have : (s.2, h - b.2.1, h - b.1) ∈ trip h R := List.mem_flatMap.mpr ⟨b, hb, List.mem_flatMap.mpr ⟨s, hs', by unfold tripS; simp⟩⟩
      have := a _ this
      exact absurd h2 (by omega)
    · symm
      have : pxS (trip h R) (fun c => decide (c ≤ y)) x = pxS (trip h R) (fun _ => false) x := pxS_congr (fun t ht => by
        have := a t ht
        exact decide_eq_false (by omega)) x
      rw [this]
      generalize trip h R = L
      induction L with
      | nil => rfl
      | cons t L ih => rw [pxS_cons, ih]; rfl
/-! ### the marks of the columns -/
theorem Ext.all {V H H' : Hp} (s : Same V H) (s2 : Same H H') : ∃ V', Ext V H V' H' ∧ ∀ b, H b = none → V' b = H' b := by
  refine ⟨fun b => if V b ≠ none then V b else if H b = none then H' b else none, ⟨fun b u e => ?_, fun b u e => ?_, s2, fun b e => ?_⟩, fun b e => ?_⟩
  · show (if V b ≠ none then V b else _) = some u
    rw [if_pos (by rw [e]; exact fun z => by cases z)]; exact e
  · have e' : (if V b ≠ none then V b else if H b = none then H' b else none) = some u := e
    by_cases c : V b ≠ none
    · rw [if_pos c] at e'; exact s2 b u (s b u e')
    · rw [if_neg c] at e'
      by_cases d : H b = none
      · rw [if_pos d] at e'; exact e'
      · rw [if_neg d] at e'; cases e'
  · have e' : (if V b ≠ none then V b else if H b = none then H' b else none) ≠ none := e
    by_cases c : V b ≠ none
    · exact .inl c
    · rw [if_neg c] at e'
      by_cases d : H b = none
      · exact .inr d
      · rw [if_neg d] at e'; exact absurd rfl e'
  · show (if V b ≠ none then V b else if H b = none then H' b else none) = H' b
    rw [if_neg (fun z => z (s.free e)), if_pos e]
def kvI (cs : List Int) (f : Int → V) : List (Key × V) := cs.map fun c => ((Sum.inl c, f c) : Key × V)
theorem kvI_val (f : Int → V) (c : Int) : ∀ cs : List Int, valV (kvI cs f) (Sum.inl c : Key) = if c ∈ cs then some (f c) else none
  | [] => rfl
  | k :: cs => by
    by_cases e : k = c
    · subst e
      rw [if_pos List.mem_cons_self]
      exact valV_pos (p := ((Sum.inl k, f k) : Key × V)) rfl
    · have h := kvI_val f c cs
      show valV (((Sum.inl k, f k) : Key × V) :: kvI cs f) _ = _
      rw [valV_neg (p := ((Sum.inl k, f k) : Key × V)) (fun z => e (Sum.inl.inj z)), h]
      have : (c ∈ k :: cs) ↔ c ∈ cs := by rw [List.mem_cons]; exact ⟨fun z => z.resolve_left fun y => e y.symm, Or.inr⟩
      by_cases m : c ∈ cs
      · rw [if_pos m, if_pos (this.mpr m)]
      · rw [if_neg m, if_neg (fun z => m (this.mp z))]
theorem kvI_keys (f : Int → V) (cs : List Int) : (kvI cs f).map (·.1) = cs.map Sum.inl := by unfold kvI; rw [List.map_map]; rfl
theorem kvI_put {f : Int → V} {c : Int} {cs : List Int} (h : c ∉ cs) (v : V) : putK (kvI cs f) (Sum.inl c : Key) v = kvI (cs ++ [c]) (fun k => if k = c then v else f k) := by
  rw [putK_new v (by rw [kvI_val, if_neg h])]
  unfold kvI
  rw [List.map_append, List.map_cons, List.map_nil]
  dsimp only
  rw [if_pos rfl]
  congr 1
  refine List.map_congr_left fun k hk => ?_
  rw [if_neg (fun e => h (by rw [← e]; exact hk))]
theorem kvI_putSame {f : Int → V} {c : Int} {cs : List Int} (h : c ∉ cs) (v : V) (hf : ∀ k, f k = v) : putK (kvI cs f) (Sum.inl c : Key) v = kvI (cs ++ [c]) f := by
  rw [kvI_put h]
  unfold kvI
  refine List.map_congr_left fun k _ => ?_
  dsimp only
  by_cases e : k = c
  · rw [if_pos e, hf]
  · rw [if_neg e]
theorem kvI_drop (f : Int → V) (c : Int) : ∀ {cs : List Int}, cs.Nodup → dropK (kvI cs f) (Sum.inl c : Key) = kvI (cs.erase c) f
  | [], _ => rfl
  | k :: cs, hn => by
    have hn' := List.nodup_cons.mp hn
    have ih := kvI_drop f c hn'.2
    unfold dropK kvI at ih ⊢
    rw [List.map_cons]
    by_cases e : k = c
    · subst e
      rw [List.filter_cons_of_neg (by simp), List.erase_cons_head, ih]
      congr 1
      exact List.erase_of_not_mem hn'.1
    · rw [List.filter_cons_of_pos (by simpa using e), List.erase_cons_tail (by simpa using e), ih]; rfl
/-- the dict of marks: for each column the list of its marks -/
structure MarksAt (H0 H : Hp) (d : Addr) (L : List Mk3) (cs : List Int) (ad : Int → Addr) : Prop where
  e : H d = some (.dK (kvI cs fun c => V.ref (ad c)))
  nd : cs.Nodup
  mem : ∀ c, c ∈ cs ↔ ∃ t ∈ L, t.1 = c
  at_ : ∀ c ∈ cs, H (ad c) = some (.lst ((colM L c).map V.int))
  inj : ∀ c ∈ cs, ∀ c' ∈ cs, ad c = ad c' → c = c'
  new : ∀ c ∈ cs, H0 (ad c) = none
  dn : H0 d = none
theorem MarksAt.dne {H0 H : Hp} {d : Addr} {L : List Mk3} {cs : List Int} {ad : Int → Addr} (M : MarksAt H0 H d L cs ad) {c : Int} (h : c ∈ cs) : ad c ≠ d := fun z => by
  have := M.at_ c h
  rw [z, M.e] at this
  cases this
theorem MarksAt.same {H0 H H' : Hp} {d : Addr} {L : List Mk3} {cs : List Int} {ad : Int → Addr} (M : MarksAt H0 H d L cs ad) (s : Same H H') : MarksAt H0 H' d L cs ad :=
  ⟨s _ _ M.e, M.nd, M.mem, fun c h => s _ _ (M.at_ c h), M.inj, M.new, M.dn⟩
theorem MarksAt.len {H0 H : Hp} {d : Addr} {L : List Mk3} {cs : List Int} {ad : Int → Addr} (M : MarksAt H0 H d L cs ad) {X : List Int} (h : ∀ t ∈ L, t.1 ∈ X) : cs.length ≤ X.length :=
  nodup_few cs X M.nd fun k hk => by
    obtain ⟨t, ht, rfl⟩ := (M.mem k).mp hk
    exact h t ht
theorem colM_none {L : List Mk3} {c : Int} (h : ¬ ∃ t ∈ L, t.1 = c) : colM L c = [] := by
  unfold colM
  refine List.flatMap_eq_nil_iff.mpr fun t ht => ?_
  rw [if_neg (fun z => h ⟨t, ht, z⟩)]
/-- a mark more, of a column that is there -/
theorem MarksAt.old {H0 H H' : Hp} {d : Addr} {L : List Mk3} {cs : List Int} {ad : Int → Addr} (M : MarksAt H0 H d L cs ad) {t : Mk3} (h : t.1 ∈ cs) (e1 : H' (ad t.1) = some (.lst ((colM L t.1).map V.int ++ [V.int t.2.1, V.int t.2.2]))) (k : ∀ b, b ≠ ad t.1 → H b ≠ none → H' b = H b) : MarksAt H0 H' d (L ++ [t]) cs ad := by
  refine ⟨?_, M.nd, fun c => ?_, fun c hc => ?_, M.inj, M.new, M.dn⟩
  · rw [k d (fun z => M.dne h z.symm) (by rw [M.e]; exact fun z => by cases z)]; exact M.e
  · rw [M.mem]
    constructor
    · rintro ⟨u, hu, e⟩; exact ⟨u, List.mem_append_left _ hu, e⟩
    · rintro ⟨u, hu, e⟩
      rcases List.mem_append.mp hu with hu | hu
      · exact ⟨u, hu, e⟩
      · rw [List.mem_singleton.mp hu] at e
        rw [← e]; exact (M.mem t.1).mp h
  · rw [colM_app]
    by_cases e : c = t.1
    · subst e
      rw [e1, List.map_append, colM_cons, if_pos rfl]; rfl
    · rw [colM_cons, if_neg (fun z => e z.symm)]
      rw [k (ad c) (fun z => e (M.inj c hc _ h z)) (by rw [M.at_ c hc]; exact fun z => by cases z), M.at_ c hc]
      congr 2
      simp [colM]
theorem MarksAt.add {H0 H H' : Hp} {d p : Addr} {L : List Mk3} {cs : List Int} {ad : Int → Addr} (M : MarksAt H0 H d L cs ad) {t : Mk3} (h : t.1 ∉ cs) (hp : H p = none) (hp0 : H0 p = none) (e1 : H' p = some (.lst [V.int t.2.1, V.int t.2.2])) (e2 : H' d = some (.dK (kvI (cs ++ [t.1]) fun k => if k = t.1 then V.ref p else V.ref (ad k)))) (k : ∀ b, b ≠ p → b ≠ d → H b ≠ none → H' b = H b) : MarksAt H0 H' d (L ++ [t]) (cs ++ [t.1]) (fun c => if c = t.1 then p else ad c) := by
  have hne : ∀ c ∈ cs, c ≠ t.1 := fun c hc z => h (by rw [← z]; exact hc)
  have hpn : ∀ c ∈ cs, ad c ≠ p := fun c hc z => by have := M.at_ c hc; rw [z, hp] at this; cases this
  refine ⟨?_, ?_, fun c => ?_, fun c hc => ?_, fun c hc c' hc' e => ?_, fun c hc => ?_, M.dn⟩
  · rw [e2]
    congr 3
    funext k; split <;> rfl
  · refine List.nodup_append.mpr ⟨M.nd, by simp, fun a ha b hb => ?_⟩
    rw [List.mem_singleton.mp hb]; exact hne a ha
  · rw [List.mem_append, List.mem_singleton, M.mem]
    constructor
    · rintro (⟨u, hu, e⟩ | e)
      · exact ⟨u, List.mem_append_left _ hu, e⟩
      · exact ⟨t, List.mem_append_right _ List.mem_cons_self, e.symm⟩
    · rintro ⟨u, hu, e⟩
      rcases List.mem_append.mp hu with hu | hu
      · exact .inl ⟨u, hu, e⟩
      · rw [List.mem_singleton.mp hu] at e; exact .inr e.symm
  · show H' (if c = t.1 then p else ad c) = _
    rw [colM_app, colM_cons]
    by_cases e : c = t.1
    · rw [if_pos e, e1, if_pos e.symm, colM_none (L := L) (fun z => h (by rw [← e]; exact (M.mem c).mpr z))]; rfl
    · have hc' : c ∈ cs := (List.mem_append.mp hc).resolve_right fun z => e (List.mem_singleton.mp z)
      rw [if_neg e, if_neg (fun z => e z.symm), k (ad c) (hpn c hc') (M.dne hc') (by rw [M.at_ c hc']; exact fun z => by cases z), M.at_ c hc']
      congr 2
      simp [colM]
  · have e' : (if c = t.1 then p else ad c) = if c' = t.1 then p else ad c' := e
    by_cases a : c = t.1
    · by_cases b : c' = t.1
      · rw [a, b]
      · have hb : c' ∈ cs := (List.mem_append.mp hc').resolve_right fun z => b (List.mem_singleton.mp z)
        rw [if_pos a, if_neg b] at e'
        exact absurd e'.symm (hpn c' hb)
    · have ha : c ∈ cs := (List.mem_append.mp hc).resolve_right fun z => a (List.mem_singleton.mp z)
      by_cases b : c' = t.1
      · rw [if_neg a, if_pos b] at e'
        exact absurd e' (hpn c ha)
      · have hb : c' ∈ cs := (List.mem_append.mp hc').resolve_right fun z => b (List.mem_singleton.mp z)
        rw [if_neg a, if_neg b] at e'
        exact M.inj c ha c' hb e'
  · show H0 (if c = t.1 then p else ad c) = none
    by_cases a : c = t.1
    · rw [if_pos a]; exact hp0
    · rw [if_neg a]; exact M.new c ((List.mem_append.mp hc).resolve_right fun z => a (List.mem_singleton.mp z))
theorem colM_le (L : List Mk3) (c : Int) : (colM L c).length ≤ 2 * L.length := by
  induction L with
  | nil => exact Nat.zero_le _
  | cons t L ih =>
    rw [colM_cons, List.length_append, List.length_cons]
    split <;> simp <;> omega
def sp__column_marks (K : PySem.W.Frag) : Sp := fun vs H Q _ => ∃ (v : V) (h : Int) (R : List Band), vs = [v, .int h] ∧ Dp K H v (regD R) ∧ RegOk R ∧
  ∀ d cs ad H', Same H H' → MarksAt H H' d (trip h R) cs ad → Q (.ref d) H'
theorem trip_take {h : Int} {R : List Band} {i : Nat} {b : Band} (e : R[i]? = some b) : trip h (R.take (i + 1)) = trip h (R.take i) ++ b.2.2.flatMap (tripS h b) := fl_take' (tripB h) R i b e
theorem trip_len {h : Int} {R : List Band} (oR : RegOk R) : (trip h R).length ≤ 40000 := by
  have h2 : ∀ b : Band, ∀ l : List Span, (l.flatMap (tripS h b)).length = 2 * l.length := fun b l => by
    induction l with
    | nil => rfl
    | cons s l ih => rw [List.flatMap_cons, List.length_append, ih, List.length_cons]; show 2 + _ = _; omega
  have h3 : ∀ l : List Band, (∀ b ∈ l, b.2.2.length < 200) → (trip h l).length ≤ 400 * l.length := fun l => by
    induction l with
    | nil => intro _; exact Nat.le_refl _
    | cons b l ih =>
      intro hl
      have i1 := ih fun q hq => hl q (List.mem_cons_of_mem _ hq)
      have i2 := hl b List.mem_cons_self
      show (tripB h b ++ trip h l).length ≤ _
      rw [List.length_append, List.length_cons]
      unfold tripB
      rw [h2]
      omega
  have := h3 R oR.fews
  have := oR.few
  omega
theorem trip_take_len {h : Int} {R : List Band} (oR : RegOk R) {i j : Nat} {b : Band} (e : R[i]? = some b) : (trip h (R.take i) ++ (b.2.2.take j).flatMap (tripS h b)).length ≤ 40000 := by
  have h1 := trip_len (h := h) oR
  have h2 : (trip h (R.take (i + 1))).length ≤ (trip h R).length := fl_le' (tripB h) R (i + 1)
  have h3 : ((b.2.2.take j).flatMap (tripS h b)).length ≤ (b.2.2.flatMap (tripS h b)).length := fl_le' (tripS h b) b.2.2 j
  rw [trip_take e, List.length_append] at h2
  rw [List.length_append]
  omega
theorem sc__column_marks : FnScope ["region", "height", "marks", "top", "bottom", "spans", "span", "column"] ["region", "height"] (defScope s__column_marks) := ⟨rfl, rfl, rfl, by decide +kernel, rfl, by decide +kernel, by decide +kernel⟩
theorem ok__column_marks (T : Txt K mg A) : FnOk P w K mg base CX0 1 A.f_column_marks A.d_column_marks ["region", "height"] (sp__column_marks K) := by
  refine T.F_column_marks.ok sc__column_marks (fun vs H Q E h => ?_) (fun cdv Ar outer s H vs Q E hr h => ?_)
  · obtain ⟨_, _, _, rfl, _⟩ := h
    rfl
  · obtain ⟨v, h, R, rfl, dv, oR, q⟩ := h
    obtain ⟨pa, xa, rfl, hpa, hxa⟩ := dp_list dv
    have lxa : xa.length = R.length := by rw [dpall_len hxa, List.length_map]
    refine ⟨_, (pss_cons (ps_set (i := 2) sc__column_marks.nd rfl (Or.inl rfl) pe_dnewK)
      (pss_cons (ps_for PassesOwn.never rfl (pi_list (pv 0)) (pg_tup rfl (pgs_cons (pg_name (i := 3) sc__column_marks.nd rfl (Or.inl rfl)) (pgs_cons (pg_name (i := 4) sc__column_marks.nd rfl (Or.inl rfl)) (pgs_cons (pg_name (i := 5) sc__column_marks.nd rfl (Or.inl rfl)) pgs_nil))))
      (pss_one (ps_for PassesOwn.never rfl (pi_tup (pv 5)) (pg_name (i := 6) sc__column_marks.nd rfl (Or.inl rfl))
      (pss_one (ps_for PassesOwn.never rfl (pi_tup (pv 6)) (pg_name (i := 7) sc__column_marks.nd rfl (Or.inl rfl))
      (pss_one (ps_expr (pe_bm PySem.F.plainAttrs_list PySem.F.slot_list_extend PySem.F.type_list_extend mt_extend (pe_dsetd (pv 2) (pv 7) (pe_lst pa_nil) ⟨rfl, rfl, rfl, rfl⟩) (pa_cons (pe_lst (pa_cons (pe_op op_sub (pv 1) (pv 4)) (pa_cons (pe_op op_sub (pv 1) (pv 3)) pa_nil))) pa_nil)))))))))
      (pss_one (ps_ret (pv 2))))), ?_⟩
    intro d hd
    have s0 : Same H (upd H d (.dK [])) := same_upd hd
    have M0 : MarksAt H (upd H d (.dK [])) d [] [] (fun _ => d) := ⟨upd_same, List.nodup_nil, fun c => ⟨fun z => (by cases z), fun ⟨_, z, _⟩ => (by cases z)⟩, fun c z => (by cases z), fun c z => (by cases z), fun c z => (by cases z), hd⟩
    refine ⟨_, rfl, pa, rfl, ⟨_, s0.seq hpa⟩, for_list (K := K) (a := pa) (xs := xa) (fun i σ H' => ∃ (v3 v4 v5 v6 v7 : Option V) (cs : List Int) (ad : Int → Addr), σ = [some (.ref pa), some (.int h), some (.ref d), v3, v4, v5, v6, v7] ∧ Same H H' ∧ MarksAt H H' d (trip h (R.take i)) cs ad) ⟨_, _, _, _, _, [], _, rfl, s0, M0⟩ (fun i σ H' _ ⟨_, _, _, _, _, _, _, _, s, _⟩ => s.seq hpa) ?_ ?_⟩
    · clear M0 s0
      rintro i x σ H1 hx ⟨v3, v4, v5, v6, v7, cs, ad, rfl, s1, M1⟩
      obtain ⟨dt, hdt, dx⟩ := dpall_get hxa hx
      rw [List.getElem?_map] at hdt
      obtain ⟨b, hb, rfl⟩ := Option.map_eq_some_iff.mp hdt
      obtain ⟨pt, p2, ws, rfl, qt, q2, r2⟩ := dp_band dx
      have lws : ws.length = b.2.2.length := by rw [dpall_len r2, List.length_map]
      refine ⟨pt, _, rfl, s1.sqt qt, rfl, _, _, rfl, _, _, rfl, _, _, rfl, rfl, ?_⟩
      have q21 := s1.sqt q2
      refine ⟨_, rfl, p2, rfl, ⟨_, q21⟩, for_tup (K := K) (a := p2) (xs := ws) (fun j σ H' => ∃ (v6 v7 : Option V) (cs : List Int) (ad : Int → Addr), σ = [some (.ref pa), some (.int h), some (.ref d), some (.int b.1), some (.int b.2.1), some (.ref p2), v6, v7] ∧ Same H H' ∧ MarksAt H H' d (trip h (R.take i) ++ (b.2.2.take j).flatMap (tripS h b)) cs ad) ⟨_, _, cs, ad, rfl, s1, by simpa using M1⟩ (fun j σ H' _ ⟨_, _, _, _, _, s, _⟩ => s.sqt q2) ?_ ?_⟩
      · clear M1 q21 s1
        rintro j x σ H2 hx2 ⟨v6, v7, cs, ad, rfl, s2, M2⟩
        obtain ⟨ds, hds, dx2⟩ := dpall_get r2 hx2
        rw [List.getElem?_map] at hds
        obtain ⟨sp, hsp, rfl⟩ := Option.map_eq_some_iff.mp hds
        obtain ⟨as, rfl, qs⟩ := dp_span dx2
        have hln := trip_take_len (h := h) (j := j) oR hb
        generalize hL : trip h (R.take i) ++ (b.2.2.take j).flatMap (tripS h b) = L at M2 hln
        refine ⟨_, rfl, as, rfl, ⟨_, s2.sqt qs⟩, for_tup (K := K) (a := as) (xs := [.int sp.1, .int sp.2]) (fun k σ H' => ∃ (v7 : Option V) (cs : List Int) (ad : Int → Addr), σ = [some (.ref pa), some (.int h), some (.ref d), some (.int b.1), some (.int b.2.1), some (.ref p2), some (.ref as), v7] ∧ Same H H' ∧ MarksAt H H' d (L ++ (tripS h b sp).take k) cs ad) ⟨_, cs, ad, rfl, s2, by simpa using M2⟩ (fun k σ H' _ ⟨_, _, _, _, s, _⟩ => s.sqt qs) ?_ ?_⟩
        · clear M2 s2
          rintro k x σ H3 hx3 ⟨v7, cs, ad, rfl, s3, M3⟩
          obtain ⟨c, rfl, ht, hk⟩ : ∃ c : Int, x = .int c ∧ (tripS h b sp)[k]? = some (c, h - b.2.1, h - b.1) ∧ k < 2 := by
            match k, hx3 with
            | 0, e => cases e; exact ⟨sp.1, rfl, rfl, by decide⟩
            | 1, e => cases e; exact ⟨sp.2, rfl, rfl, by decide⟩
            | k + 2, e => cases e
          have etk : (tripS h b sp).take (k + 1) = (tripS h b sp).take k ++ [(c, h - b.2.1, h - b.1)] := by
            obtain ⟨g1, g2⟩ := List.getElem?_eq_some_iff.mp ht
            rw [List.take_succ_eq_append_getElem g1, g2]
          have hl3 : (L ++ (tripS h b sp).take k).length ≤ 40002 := by
            have : ((tripS h b sp).take k).length ≤ 2 := by rw [List.length_take]; exact Nat.min_le_right _ _
            rw [List.length_append]; omega
          rw [etk, ← List.append_assoc]
          generalize L ++ (tripS h b sp).take k = L3 at M3 hl3 ⊢
          have hcl := colM_le L3 c
          have hcs : cs.length ≤ 40004 := by
            have h1 := M3.len (X := L3.map (·.1)) fun t ht => List.mem_map_of_mem ht
            rw [List.length_map] at h1
            omega
          refine ⟨_, rfl, d, rfl, .inl ⟨_, .inl M3.e⟩, _, rfl, len_line (by show 0 ≤ 100000; decide), fun p hp => ?_⟩
          have hdp : d ≠ p := ne_of_none M3.e hp
          refine ⟨_, Sum.inl c, (upd_ne hdp).trans M3.e, rfl, by unfold kvI; rw [List.length_map]; exact lt_line (by omega), fun v hv => ?_, fun hv => ?_⟩
          · rw [kvI_val] at hv
            by_cases hc : c ∈ cs
            · rw [if_pos hc] at hv
              cases hv
              have ea := M3.at_ c hc
              have hap : ad c ≠ p := ne_of_none ea hp
              refine ⟨.inl ⟨rfl, _, SqL.of ((upd_ne hap).trans ea)⟩, _, rfl, _, rfl, _, _, rfl, rfl, _, rfl, _, rfl, _, _, rfl, rfl, len_line (by show 2 ≤ 100000; decide), fun p2' hp2 => ?_⟩
              have hap2 : ad c ≠ p2' := ne_of_none ((upd_ne hap).trans ea) hp2
              refine ⟨_, _, _, _, rfl, rfl, (upd_ne hap2).trans ((upd_ne hap).trans ea), upd_same, by rw [List.length_map]; exact len_line (by show _ + 2 ≤ 100000; omega), ?_⟩
              refine ⟨_, cs, ad, rfl, fun z u e => ?_, M3.old (t := (c, h - b.2.1, h - b.1)) hc upd_same fun z z1 z2 => ?_⟩
              · have z1 : z ≠ ad c := fun y => by subst y; rw [M3.new c hc] at e; cases e
                have e3 := s3 z u e
                rw [upd_ne z1, upd_ne (ne_of_none ((upd_ne (ne_of_none e3 hp)).trans e3) hp2), upd_ne (ne_of_none e3 hp)]; exact e3
              · have z1' : z ≠ ad c := z1
                obtain ⟨u, e3⟩ := Option.ne_none_iff_exists'.mp z2
                rw [upd_ne z1', upd_ne (ne_of_none ((upd_ne (ne_of_none e3 hp)).trans e3) hp2), upd_ne (ne_of_none e3 hp)]
            · rw [if_neg hc] at hv; cases hv
          · rw [kvI_val] at hv
            by_cases hc : c ∈ cs
            · rw [if_pos hc] at hv; cases hv
            · rw [kvI_put hc]
              have e1 : (upd (upd H3 p (.lst [])) d (.dK (kvI (cs ++ [c]) fun k => if k = c then .ref p else .ref (ad k)))) p = some (.lst []) := (upd_ne hdp.symm).trans upd_same
              have e2 : (upd (upd H3 p (.lst [])) d (.dK (kvI (cs ++ [c]) fun k => if k = c then .ref p else .ref (ad k)))) d = _ := upd_same
              have e3 : ∀ z, z ≠ p → z ≠ d → (upd (upd H3 p (.lst [])) d (.dK (kvI (cs ++ [c]) fun k => if k = c then .ref p else .ref (ad k)))) z = H3 z := fun z z1 z2 => (upd_ne z2).trans (upd_ne z1)
              generalize upd (upd H3 p (.lst [])) d (.dK (kvI (cs ++ [c]) fun k => if k = c then .ref p else .ref (ad k))) = H4 at e1 e2 e3 ⊢
              refine ⟨.inl ⟨rfl, _, SqL.of e1⟩, _, rfl, _, rfl, _, _, rfl, rfl, _, rfl, _, rfl, _, _, rfl, rfl, len_line (by show 2 ≤ 100000; decide), fun p2' hp2 => ?_⟩
              have hpp2 : p ≠ p2' := ne_of_none e1 hp2
              have hdp2 : d ≠ p2' := ne_of_none e2 hp2
              have hp0 : H p = none := s3.free hp
              refine ⟨_, _, _, _, rfl, rfl, (upd_ne hpp2).trans e1, upd_same, len_line (by show 0 + 2 ≤ 100000; decide), ?_⟩
              refine ⟨_, _, _, rfl, fun z u e => ?_, M3.add (t := (c, h - b.2.1, h - b.1)) hc hp hp0 upd_same ((upd_ne hdp).trans ((upd_ne hdp2).trans e2)) fun z z1 z2 z3 => ?_⟩
              · have z1 : z ≠ p := fun y => by subst y; rw [hp0] at e; cases e
                have z2 : z ≠ d := fun y => by subst y; rw [M3.dn] at e; cases e
                have e5 := s3 z u e
                rw [upd_ne z1, upd_ne (ne_of_none ((e3 z z1 z2).trans e5) hp2), e3 z z1 z2]; exact e5
              · obtain ⟨u, e5⟩ := Option.ne_none_iff_exists'.mp z3
                rw [upd_ne z1, upd_ne (ne_of_none ((e3 z z1 z2).trans e5) hp2), e3 z z1 z2]
        · rintro σ H3 ⟨v7, cs, ad, rfl, s3, M3⟩
          refine ⟨_, _, cs, ad, rfl, s3, ?_⟩
          have : trip h (R.take i) ++ (b.2.2.take (j + 1)).flatMap (tripS h b) = L ++ (tripS h b sp).take 2 := by
            rw [← hL, fl_take' (tripS h b) b.2.2 j sp hsp, ← List.append_assoc]; rfl
          rw [this]; exact M3
      · rintro σ H2 ⟨v6, v7, cs, ad, rfl, s2, M2⟩
        rw [lws, List.take_length, ← trip_take hb] at M2
        exact ⟨_, _, _, _, _, cs, ad, rfl, s2, M2⟩
    · rintro σ H1 ⟨v3, v4, v5, v6, v7, cs, ad, rfl, s1, M1⟩
      rw [lxa, List.take_length] at M1
      exact ⟨_, rfl, q d cs ad _ s1 M1⟩
/-! ### turned -/
theorem pairs_zip : ∀ ps : List Int, ∀ {j : Nat} {a b : Int}, (evens ps)[j]? = some a → (odds ps)[j]? = some b → (pairsOf ps)[j]? = some (a, b)
  | [], j, a, b, h, _ => by simp [evens] at h
  | [_], j, a, b, _, h => by simp [odds] at h
  | x :: y :: t, 0, a, b, h1, h2 => by
    simp only [evens, odds, List.getElem?_cons_zero, Option.some.injEq] at h1 h2
    subst h1; subst h2; rfl
  | x :: y :: t, j + 1, a, b, h1, h2 => by
    have e1 : (evens t)[j]? = some a := by simpa [evens] using h1
    have e2 : (odds t)[j]? = some b := by simpa [odds] using h2
    show (pairsOf t)[j]? = some (a, b)
    exact pairs_zip t e1 e2
theorem pairs_len : ∀ ps : List Int, (pairsOf ps).length = ps.length / 2
  | [] => rfl
  | [_] => by simp [pairsOf]
  | x :: y :: t => by show (pairsOf t).length + 1 = (t.length + 1 + 1) / 2; rw [pairs_len t]; omega
theorem dpall_ix {K : PySem.W.Frag} {H : Hp} : ∀ {vs : List V} {ds : List PyData}, vs.length = ds.length → (∀ (i : Nat) (v : V) (d : PyData), vs[i]? = some v → ds[i]? = some d → Dp K H v d) → DpAll K H vs ds
  | [], [], _, _ => .nil
  | [], _ :: _, h, _ => by cases h
  | _ :: _, [], h, _ => by cases h
  | v :: vs, d :: ds, h, f => .cons (f 0 v d rfl rfl) (dpall_ix (by simpa using h) fun i v' d' h1 h2 => f (i + 1) v' d' h1 h2)
theorem strict_of {ys ks : List Int} (hp : ys.Perm ks) (hn : ks.Nodup) (hs : ys.Pairwise (· ≤ ·)) : ys.Pairwise (· < ·) := by
  have hn' : ys.Nodup := hp.nodup_iff.mpr hn
  exact (List.Pairwise.and hs hn').imp fun {a b} h => by have := h.1; have := h.2; omega
/-- what is known of the bands made so far -/
structure TurnInv (h : Int) (R : List Band) (es : List Int) (i : Nat) (bs : List Band) (ks : List Int) : Prop where
  sg : bs.map (fun b => (b.1, b.2.1)) = (segs es).take i
  gap : ∀ b ∈ bs, Gap b.2.2
  sq : ∀ b ∈ bs, ∀ z, inS b.2.2 z = pxS (trip h R) (fun c => decide (c ≤ b.1)) z
  mks : ∀ b ∈ bs, ∀ s ∈ b.2.2, (∃ t ∈ trip h R, s.1 = t.2.1 ∨ s.1 = t.2.2) ∧ ∃ t ∈ trip h R, s.2 = t.2.1 ∨ s.2 = t.2.2
  nd : ks.Nodup
  ev : ks.length % 2 = 0
  km : ∀ k ∈ ks, ∃ t ∈ trip h R, k = t.2.1 ∨ k = t.2.2
  pr : ∀ z, par ks z = pxS (trip h R) (fun c => decide (c ∈ es.take i)) z
theorem TurnInv.start (h : Int) (R : List Band) (es : List Int) : TurnInv h R es 0 [] [] := by
  refine ⟨rfl, fun b hb => (by cases hb), fun b hb => (by cases hb), fun b hb => (by cases hb), List.nodup_nil, rfl, fun k hk => (by cases hk), fun z => ?_⟩
  show false = _
  generalize trip h R = L
  induction L with
  | nil => rfl
  | cons t L ih => rw [pxS_cons, ← ih]; simp
theorem seg_take {es : List Int} {i : Nat} {s : Int × Int} (e : (segs es)[i]? = some s) : es[i]? = some s.1 ∧ es[i + 1]? = some s.2 := by
  obtain ⟨h1, h2⟩ := List.getElem?_zip_eq_some.mp e
  refine ⟨h1, ?_⟩
  rw [List.getElem?_tail] at h2; exact h2
/-- a band more -/
theorem TurnInv.step {h : Int} {R : List Band} {es : List Int} {i : Nat} {bs : List Band} {ks ps : List Int} {s : Int × Int} (I : TurnInv h R es i bs ks) (hp : es.Pairwise (· < ·)) (he : ∀ k, k ∈ es ↔ ∃ t ∈ trip h R, t.1 = k) (e : (segs es)[i]? = some s) (hps : ps.Perm (togs ks (colM (trip h R) s.1))) (hs : ps.Pairwise (· ≤ ·)) :
    TurnInv h R es (i + 1) (bs ++ [(s.1, s.2, pairsOf ps)]) (togs ks (colM (trip h R) s.1)) ∧ ps.length % 2 = 0 := by
  have nd := togs_nodup (colM (trip h R) s.1) I.nd
  have st := strict_of hps nd hs
  have h1 := togs_len (colM (trip h R) s.1) ks
  have h2 := colM_len (trip h R) s.1
  have h3 := I.ev
  have ev : (togs ks (colM (trip h R) s.1)).length % 2 = 0 := by omega
  have pl : ps.length % 2 = 0 := by rw [hps.length_eq]; exact ev
  have km : ∀ k ∈ togs ks (colM (trip h R) s.1), ∃ t ∈ trip h R, k = t.2.1 ∨ k = t.2.2 := fun k hk => by
    rcases togs_mem _ hk with hk | hk
    · exact I.km k hk
    · obtain ⟨t, ht, _, h⟩ := colM_mem hk
      exact ⟨t, ht, h⟩
  obtain ⟨e1, e2⟩ := seg_take e
  have etk : es.take (i + 1) = es.take i ++ [s.1] := by
    obtain ⟨g1, g2⟩ := List.getElem?_eq_some_iff.mp e1
    rw [List.take_succ_eq_append_getElem g1, g2]
  have hni : s.1 ∉ es.take i := fun hm => by
    have := List.pairwise_append.mp (show (es.take i ++ es.drop i).Pairwise (· < ·) by rw [List.take_append_drop]; exact hp)
    have := this.2.2 s.1 hm s.1 (by
      obtain ⟨g1, g2⟩ := List.getElem?_eq_some_iff.mp e1
      rw [List.drop_eq_getElem_cons g1, g2]; exact List.mem_cons_self)
    omega
  have pr : ∀ z, My.par (togs ks (colM (trip h R) s.1)) z = pxS (trip h R) (fun c => decide (c ∈ es.take (i + 1))) z := fun z => by
    rw [togs_par, I.pr, colM_par, ← pxS_xor]
    refine pxS_congr (fun t _ => ?_) z
    rw [etk]
    by_cases a : t.1 ∈ es.take i
    · rw [decide_eq_true a, decide_eq_true (List.mem_append_left _ a), decide_eq_false (fun z => hni (by rw [← z]; exact a))]; rfl
    · by_cases b : t.1 = s.1
      · rw [decide_eq_false a, decide_eq_true b, decide_eq_true (by rw [b]; exact List.mem_append_right _ List.mem_cons_self)]; rfl
      · rw [decide_eq_false a, decide_eq_false b, decide_eq_false (fun z => (List.mem_append.mp z).elim a fun y => b (List.mem_singleton.mp y))]; rfl
  refine ⟨⟨?_, fun b hb => ?_, fun b hb z => ?_, fun b hb q hq => ?_, nd, ev, km, pr⟩, pl⟩
  · obtain ⟨g1, g2⟩ := List.getElem?_eq_some_iff.mp e
    rw [List.map_append, I.sg, List.take_succ_eq_append_getElem g1, g2]; rfl
  · rcases List.mem_append.mp hb with hb | hb
    · exact I.gap b hb
    · rw [List.mem_singleton.mp hb]; exact pairsOf_gap st
  · rcases List.mem_append.mp hb with hb | hb
    · exact I.sq b hb z
    · rw [List.mem_singleton.mp hb]
      show inS (pairsOf ps) z = pxS (trip h R) (fun c => decide (c ≤ s.1)) z
      rw [pairsOf_in st pl, par_perm hps, pr]
      refine pxS_congr (fun t ht => ?_) z
      have hm := (he t.1).mpr ⟨t, ht, rfl⟩
      congr 1
      rw [etk]
      refine propext ⟨fun hk => ?_, fun hk => ?_⟩
      · rcases List.mem_append.mp hk with hk | hk
        · have := List.pairwise_append.mp (show (es.take i ++ es.drop i).Pairwise (· < ·) by rw [List.take_append_drop]; exact hp)
          have := this.2.2 t.1 hk s.1 (by
            obtain ⟨g1, g2⟩ := List.getElem?_eq_some_iff.mp e1
            rw [List.drop_eq_getElem_cons g1, g2]; exact List.mem_cons_self)
          omega
        · rw [List.mem_singleton.mp hk]; exact Int.le_refl _
      · rw [← etk]
        have hm2 : t.1 ∈ es.take (i + 1) ++ es.drop (i + 1) := by rw [List.take_append_drop]; exact hm
        rcases List.mem_append.mp hm2 with hm2 | hm2
        · exact hm2
        · have := List.pairwise_append.mp (show (es.take (i + 1) ++ es.drop (i + 1)).Pairwise (· < ·) by rw [List.take_append_drop]; exact hp)
          have := this.2.2 s.1 (by rw [etk]; exact List.mem_append_right _ List.mem_cons_self) t.1 hm2
          omega
  · rcases List.mem_append.mp hb with hb | hb
    · exact I.mks b hb q hq
    · rw [List.mem_singleton.mp hb] at hq
      obtain ⟨m1, m2⟩ := pairsOf_mem hq
      exact ⟨km _ (hps.mem_iff.mp m1), km _ (hps.mem_iff.mp m2)⟩
theorem TurnInv.done {h : Int} {R : List Band} {es X Y : List Int} {bs : List Band} {ks : List Int} (I : TurnInv h R es (segs es).length bs ks) (rg : RegIn X Y R) (hp : es.Pairwise (· < ·)) (he : ∀ k, k ∈ es ↔ ∃ t ∈ trip h R, t.1 = k) :
    RegIn (Y.map fun k => h - k) X (joinM bs) ∧ ∀ x y, hasSq (joinM bs) x y = hasSq R y (h - 1 - x) := by
  have sg : bs.map (fun b => (b.1, b.2.1)) = segs es := by rw [I.sg, List.take_length]
  obtain ⟨u, sq⟩ := turn_sq rg.u.rows rg.u.gap hp he sg I.gap I.sq
  have eX : ∀ k ∈ es, k ∈ X := fun k hk => by
    obtain ⟨t, ht, rfl⟩ := (he k).mp hk
    obtain ⟨b, hb, s, hs, h1, _⟩ := trip_mem ht
    rcases h1 with h1 | h1
    · rw [h1]; exact (rg.xs b hb s hs).1
    · rw [h1]; exact (rg.xs b hb s hs).2
  have eY : ∀ k : Int, (∃ t ∈ trip h R, k = t.2.1 ∨ k = t.2.2) → k ∈ Y.map fun k => h - k := fun k ⟨t, ht, hk⟩ => by
    obtain ⟨b, hb, s, hs, _, h2, h3⟩ := trip_mem ht
    rcases hk with hk | hk
    · rw [hk, h2]; exact List.mem_map.mpr ⟨_, (rg.ys b hb).2, rfl⟩
    · rw [hk, h3]; exact List.mem_map.mpr ⟨_, (rg.ys b hb).1, rfl⟩
  have rows : Rows bLo bHi bs := by
    have R2 := segs_rows hp
    rw [← sg] at R2
    exact ⟨fun q hq => R2.pos (q.1, q.2.1) (List.mem_map.mpr ⟨q, hq, rfl⟩), List.pairwise_map.mp R2.ord⟩
  have mem : ∀ b ∈ bs, b.1 ∈ es ∧ b.2.1 ∈ es := fun b hb => by
    have := seg_mem hp (b := b.1) (e := b.2.1) (by rw [← sg]; exact List.mem_map.mpr ⟨b, hb, rfl⟩)
    exact this.2.2
  refine ⟨⟨u, fun b hb => ?_, fun b hb s hs => ?_⟩, sq⟩
  · obtain ⟨⟨p, hp1, e1⟩, ⟨r, hr, e2⟩, _⟩ := joinM_mem rows b hb
    rw [e1, e2]
    exact ⟨eX _ (mem p hp1).1, eX _ (mem r hr).2⟩
  · obtain ⟨_, _, r, hr, e3⟩ := joinM_mem rows b hb
    rw [e3] at hs
    obtain ⟨m1, m2⟩ := I.mks r hr s hs
    exact ⟨eY _ m1, eY _ m2⟩
def sp_turned (K : PySem.W.Frag) : Sp := fun vs H Q _ => ∃ (v : V) (h : Int) (R : List Band) (X Y : List Int), vs = [v, .int h] ∧ Dp K H v (regD R) ∧ RegIn X Y R ∧ X.length < 64 ∧ Y.length < 64 ∧
  ∀ v' R' H', Same H H' → Dp K H' v' (regD R') → RegIn (Y.map fun k => h - k) X R' → (∀ x y, hasSq R' x y = hasSq R y (h - 1 - x)) → Q v' H'
theorem sc_turned : FnScope ["region", "height", "marks", "columns", "open_marks", "bands", "column", "behind", "mark", "places"] ["region", "height"] (defScope s_turned) := ⟨rfl, rfl, rfl, by decide +kernel, rfl, by decide +kernel, by decide +kernel⟩
theorem ok_turned (T : Txt K mg A) : FnOk P w K mg base CX0 2 A.fturned A.dturned ["region", "height"] (sp_turned K) := by
  refine T.Fturned.ok sc_turned (fun vs H Q E h => ?_) (fun cdv Ar outer s H vs Q E hr h => ?_)
  · obtain ⟨_, _, _, _, _, rfl, _⟩ := h
    rfl
  · obtain ⟨v, h, R, X, Y, rfl, dv, rg, hX, hY, q⟩ := h
    have oR := rg.ok (Nat.lt_trans hX (by decide)) hY
    obtain ⟨pa, xa, rfl, hpa, hxa⟩ := dp_list dv
    refine ⟨_, (pss_cons (ps_set (i := 2) sc_turned.nd rfl (Or.inl rfl) (pe_call (ok__column_marks T) (hr.mono (by decide)) rfl T.g_column_marks T.k_column_marks T.b_column_marks .nil pass0 (pa_cons (pv 0) (pa_cons (pv 1) pa_nil))))
      (pss_cons (ps_set (i := 3) sc_turned.nd rfl (Or.inl rfl) (pe_callB (call_sortedDI rfl) (by rfl) T.sorted (by decide +kernel) (pa_cons (pv 2) pa_nil)))
      (pss_cons (ps_set (i := 4) sc_turned.nd rfl (Or.inl rfl) pe_dnewK)
      (pss_cons (ps_set (i := 5) sc_turned.nd rfl (Or.inl rfl) (pe_lst pa_nil))
      (pss_cons (ps_for PassesOwn.never rfl (pi_zip (by rfl) T.zip (pa_cons (pv 3) (pa_cons (pe_slice (r := rSlL K) sl_list (pv 3) (po_some pe_int) po_none) pa_nil))) (pg_tup rfl (pgs_cons (pg_name (i := 6) sc_turned.nd rfl (Or.inl rfl)) (pgs_cons (pg_name (i := 7) sc_turned.nd rfl (Or.inl rfl)) pgs_nil)))
      (pss_cons (ps_for PassesOwn.never rfl (pi_list (pe_dget (hu_of hr) (pv 2) (pv 6) (fun _ _ => rfl))) (pg_name (i := 8) sc_turned.nd rfl (Or.inl rfl))
      (pss_one (ps_if (pt_cmp (pc_din (hu_of hr) (pv 8) (pv 4)))
      (pss_one (ps_ddel (pv 4) (pv 8)))
      (pss_one (ps_dput (hu_of hr) (pv 4) (pv 8) pe_bl rfl)))))
      (pss_cons (ps_set (i := 9) sc_turned.nd rfl (Or.inl rfl) (pe_callB (call_sortedDI rfl) (by rfl) T.sorted (by decide +kernel) (pa_cons (pv 4) pa_nil)))
      (pss_one (ps_expr (pe_bm PySem.F.plainAttrs_list PySem.F.slot_list_append PySem.F.type_list_append mt_append (pv 5) (pa_cons (pe_tup (pa_cons (pv 6) (pa_cons (pv 7) (pa_cons (pe_tupZip rfl (by rfl) T.tuple (by rfl) T.zip (pa_cons (pe_slice3 (pv 9) po_none po_none (po_some pe_int)) (pa_cons (pe_slice3 (pv 9) (po_some pe_int) po_none (po_some pe_int)) pa_nil))) pa_nil)))) pa_nil)))))))
      (pss_one (ps_ret (pe_call (ok__joined T) (hr.mono (by decide)) rfl T.g_joined T.k_joined T.b_joined .nil pass0 (pa_cons (pv 5) pa_nil))))))))), ?_⟩
    refine ⟨_, rfl, _, rfl, _, h, R, rfl, dv, oR, fun d cs ad H1 s1 M => ?_⟩
    have hcs := M.len (X := X) fun t ht => by
      obtain ⟨b, hb, s, hs, h1, _⟩ := trip_mem ht
      rcases h1 with h1 | h1
      · rw [h1]; exact (rg.xs b hb s hs).1
      · rw [h1]; exact (rg.xs b hb s hs).2
    refine ⟨_, rfl, d, _, cs, rfl, .inl M.e, kvI_keys _ _, by omega, fun es pe hperm hsort hpe => ?_⟩
    have hp := strict_of hperm M.nd hsort
    have he : ∀ k, k ∈ es ↔ ∃ t ∈ trip h R, t.1 = k := fun k => by rw [hperm.mem_iff]; exact M.mem k
    have hel : es.length < 64 := by rw [hperm.length_eq]; omega
    have spe := same_upd (o := .lst (es.map V.int)) hpe
    have M2 := M.same spe
    have ee : (upd H1 pe (.lst (es.map V.int))) pe = _ := upd_same
    have s12 := s1.trans spe
    generalize upd H1 pe (.lst (es.map V.int)) = H2 at spe M2 ee s12 ⊢
    intro o ho
    have so := same_upd (o := .dK []) ho
    refine ⟨len_line (by show 0 ≤ 100000; decide), fun D hD => ?_⟩
    have hDo : o ≠ D := ne_of_none upd_same hD
    have hD2 : H2 D = none := by
      have := hD
      rwa [upd_ne hDo.symm] at this
    have x0 : Ext H2 H2 H2 (upd (upd H2 o (.dK [])) D (.lst [])) := (Ext.skip (Same.refl _) ho).poke hD2 hD2
    have eo0 : (upd (upd H2 o (.dK [])) D (.lst [])) o = some (.dK (kvI [] fun _ => V.bl true)) := (upd_ne hDo).trans upd_same
    have eD0 : (upd (upd H2 o (.dK [])) D (.lst [])) D = some (.lst []) := upd_same
    generalize upd (upd H2 o (.dK [])) D (.lst []) = H3 at x0 eo0 eD0 ⊢
    refine ⟨_, rfl, _, rfl, _, rfl, pe, _, rfl, SqL.of (x0.hh _ _ ee), fun p6 hp6 => ?_⟩
    rw [cut_tail]
    have hsl : (segs es).length = min (es.map V.int).length (es.map V.int).tail.length := by rw [segs_len]; simp
    have hlsg : (segs es).length < 64 := by rw [segs_len]; exact Nat.lt_of_le_of_lt (Nat.min_le_left _ _) hel
    have x1 := x0.trans (Ext.new (o := .lst (es.map V.int).tail) x0.vh hp6)
    have e6 : (upd H2 p6 (.lst (es.map V.int).tail)) p6 = some (.lst (es.map V.int).tail) := upd_same
    have eo1 := same_upd (o := .lst (es.map V.int).tail) hp6 _ _ eo0
    have eD1 := same_upd (o := .lst (es.map V.int).tail) hp6 _ _ eD0
    have uo : (upd H2 p6 (.lst (es.map V.int).tail)) o = none := (upd_ne (ne_of_none eo0 hp6)).trans ho
    have uD : (upd H2 p6 (.lst (es.map V.int).tail)) D = none := (upd_ne (ne_of_none eD0 hp6)).trans hD2
    clear hD so
    generalize upd H3 p6 (.lst (es.map V.int).tail) = H4 at x1 eo1 eD1 ⊢
    generalize upd H2 p6 (.lst (es.map V.int).tail) = U4 at x1 e6 uo uD ⊢
    clear x0 eo0 eD0
    refine ⟨pe, p6, _, _, rfl, SqL.of (x1.hh _ _ ee), SqL.of (x1.vh _ _ e6), for_it (walk_zip (K := K) (a := pe) (b := p6) (n := (segs es).length) hsl)
      (fun i σ H' => ∃ (v6 v7 v8 v9 : Option V) (U : Hp) (zs : List V) (bs : List Band) (ks : List Int), σ = [some (.ref pa), some (.int h), some (.ref d), some (.ref pe), some (.ref o), some (.ref D), v6, v7, v8, v9] ∧ Ext H2 H2 U H' ∧ Same U4 U ∧ U o = none ∧ U D = none ∧ H' o = some (.dK (kvI ks fun _ => V.bl true)) ∧ H' D = some (.lst zs) ∧ DpAll K U zs (bs.map bandD) ∧ TurnInv h R es i bs ks)
      ⟨_, _, _, _, U4, [], [], [], rfl, x1, Same.refl _, uo, uD, eo1, eD1, .nil, TurnInv.start h R es⟩ (fun i σ H' _ ⟨_, _, _, _, U, _, _, _, _, x, s, _⟩ => ⟨SqL.of (x.hh _ _ ee), SqL.of (x.vh _ _ (s _ _ e6))⟩) ?_ ?_⟩
    · clear x1 eo1 eD1
      rintro i x σ H5 H6 hin ⟨v6, v7, v8, v9, U, zs, bs, ks, rfl, x5, sU, uo5, uD5, eo5, eD5, dz, I⟩ ⟨T2, y1, y2, rfl, hT, rfl, hy1, hy2⟩
      obtain ⟨bg, en, rfl, rfl, hsg⟩ := segs_at hy1 hy2
      have x6 := x5.trans (Ext.skip (o := .tup [.int bg, .int en]) x5.vh hT)
      have eT : (upd H5 T2 (.tup [.int bg, .int en])) T2 = _ := upd_same
      have eo6 := same_upd (o := .tup [.int bg, .int en]) hT _ _ eo5
      have eD6 := same_upd (o := .tup [.int bg, .int en]) hT _ _ eD5
      generalize upd H5 T2 (.tup [.int bg, .int en]) = H6 at x6 eT eo6 eD6 ⊢
      refine ⟨T2, _, rfl, SqT.of eT, rfl, _, _, rfl, _, _, rfl, rfl, ?_⟩
      have M6 := M2.same x6.hh
      have hbg : bg ∈ cs := hperm.mem_iff.mp (List.mem_of_getElem? (seg_take hsg).1)
      have ea := M6.at_ bg hbg
      have hao : ad bg ≠ o := fun z => by rw [z] at ea; rw [eo6] at ea; cases ea
      refine ⟨_, rfl, _, rfl, d, V.ref (ad bg), rfl, .inl ⟨_, Sum.inl bg, .inl M6.e, rfl, by rw [kvI_val, if_pos hbg]⟩, ?_⟩
      refine ⟨ad bg, rfl, ⟨_, SqL.of ea⟩, for_list (K := K) (a := ad bg) (xs := (colM (trip h R) bg).map V.int) (fun j σ H' => ∃ (v8 : Option V), σ = [some (.ref pa), some (.int h), some (.ref d), some (.ref pe), some (.ref o), some (.ref D), some (.int bg), some (.int en), v8, v9] ∧ H' o = some (.dK (kvI (togs ks ((colM (trip h R) bg).take j)) fun _ => V.bl true)) ∧ ∀ b, b ≠ o → H' b = H6 b) ⟨_, rfl, eo6, fun _ _ => rfl⟩ (fun j σ H' _ ⟨_, _, _, k⟩ => SqL.of ((k _ hao).trans ea)) ?_ ?_⟩
      · rintro j x σ H7 hx ⟨v8, rfl, eo7, k7⟩
        rw [List.getElem?_map] at hx
        obtain ⟨m, hm, rfl⟩ := Option.map_eq_some_iff.mp hx
        have etk : togs ks ((colM (trip h R) bg).take (j + 1)) = tog (togs ks ((colM (trip h R) bg).take j)) m := by
          obtain ⟨g1, g2⟩ := List.getElem?_eq_some_iff.mp hm
          rw [List.take_succ_eq_append_getElem g1, g2]
          unfold togs
          rw [List.foldl_append]; rfl
        rw [etk]
        have ndk := togs_nodup ((colM (trip h R) bg).take j) I.nd
        have lk : (togs ks ((colM (trip h R) bg).take j)).length ≤ 99999 := by
          have := nodup_few _ (Y.map fun k => h - k) ndk fun k hk => by
            have : ∃ t ∈ trip h R, k = t.2.1 ∨ k = t.2.2 := by
              rcases togs_mem _ hk with hk | hk
              · exact I.km k hk
              · obtain ⟨t, ht, _, h⟩ := colM_mem (List.mem_of_mem_take hk)
                exact ⟨t, ht, h⟩
            obtain ⟨t, ht, hk⟩ := this
            obtain ⟨b, hb, s, hs, _, h2, h3⟩ := trip_mem ht
            rcases hk with hk | hk
            · rw [hk, h2]; exact List.mem_map.mpr ⟨_, (rg.ys b hb).2, rfl⟩
            · rw [hk, h3]; exact List.mem_map.mpr ⟨_, (rg.ys b hb).1, rfl⟩
          rw [List.length_map] at this
          omega
        generalize togs ks ((colM (trip h R) bg).take j) = kk at eo7 ndk lk ⊢
        refine ⟨_, rfl, _, rfl, o, _, rfl, .inl ⟨_, Sum.inl m, .inl eo7, rfl, rfl⟩, _, rfl, ?_⟩
        rw [kvI_val]
        by_cases c : m ∈ kk
        · rw [if_pos c]
          refine if_t rfl ?_
          refine ⟨_, rfl, _, rfl, o, _, Sum.inl m, rfl, eo7, rfl, by rw [kvI_val, if_pos c]; rfl, ?_⟩
          rw [kvI_drop _ _ ndk]
          refine ⟨_, rfl, ?_, fun b hb => (upd_ne hb).trans (k7 b hb)⟩
          unfold tog
          rw [if_pos c]; exact upd_same
        · rw [if_neg c]
          refine if_f rfl ?_
          refine ⟨_, rfl, _, rfl, o, _, rfl, .inl ⟨_, Sum.inl m, eo7, rfl, by unfold kvI; rw [List.length_map]; exact lt_line (by omega), rfl⟩, ?_⟩
          rw [kvI_putSame c _ fun _ => rfl]
          refine ⟨_, rfl, ?_, fun b hb => (upd_ne hb).trans (k7 b hb)⟩
          unfold tog
          rw [if_neg c]; exact upd_same
      · rintro σ H7 ⟨v8, rfl, eo7, k7⟩
        rw [List.length_map, List.take_length] at eo7
        have x7 : Ext H2 H2 U H7 := ⟨x6.vv, fun b u e => (k7 b (fun z => by rw [z, uo5] at e; cases e)).trans (x6.vh b u e), fun b u e => (k7 b (fun z => by rw [z, ho] at e; cases e)).trans (x6.hh b u e), x6.nw⟩
        have hDo' : D ≠ o := hDo.symm
        have eD7 : H7 D = some (.lst zs) := (k7 D hDo').trans eD6
        clear k7 x6 eo6 eD6 M6 ea
        have lk : (togs ks (colM (trip h R) bg)).length < 64 := by
          have := nodup_few _ (Y.map fun k => h - k) (togs_nodup (colM (trip h R) bg) I.nd) fun k hk => by
            have : ∃ t ∈ trip h R, k = t.2.1 ∨ k = t.2.2 := by
              rcases togs_mem _ hk with hk | hk
              · exact I.km k hk
              · obtain ⟨t, ht, _, h⟩ := colM_mem hk
                exact ⟨t, ht, h⟩
            obtain ⟨t, ht, hk⟩ := this
            obtain ⟨b, hb, s, hs, _, h2, h3⟩ := trip_mem ht
            rcases hk with hk | hk
            · rw [hk, h2]; exact List.mem_map.mpr ⟨_, (rg.ys b hb).2, rfl⟩
            · rw [hk, h3]; exact List.mem_map.mpr ⟨_, (rg.ys b hb).1, rfl⟩
          rw [List.length_map] at this
          omega
        refine ⟨_, rfl, o, _, _, rfl, .inl eo7, kvI_keys _ _, lk, fun ps p9 hps hss hp9 => ?_⟩
        obtain ⟨I', hev⟩ := I.step hp he hsg hps hss
        have lps : ps.length < 64 := by rw [hps.length_eq]; exact lk
        have x8 := x7.trans (Ext.skip (o := .lst (ps.map V.int)) x7.vh hp9)
        have eo8 := same_upd (o := .lst (ps.map V.int)) hp9 _ _ eo7
        have eD8 := same_upd (o := .lst (ps.map V.int)) hp9 _ _ eD7
        have e9 : (upd H7 p9 (.lst (ps.map V.int))) p9 = _ := upd_same
        generalize upd H7 p9 (.lst (ps.map V.int)) = H8 at x8 eo8 eD8 e9 ⊢
        refine ⟨_, rfl, .inl ⟨rfl, _, SqL.of eD8⟩, _, rfl, _, rfl, ?_⟩
        have lev : (evens (ps.map V.int)).length ≤ 1000 := by rw [evens_len, List.length_map]; omega
        have lod : (odds (ps.map V.int)).length ≤ 1000 := by rw [odds_len, List.length_map]; omega
        refine ⟨_, rfl, _, rfl, p9, _, rfl, SqL.of e9, (fun z => by cases z), by rw [pickV_evens]; exact len_line (by omega), fun pe1 he1 => ?_⟩
        rw [pickV_evens]
        have se1 := same_upd (o := .lst (evens (ps.map V.int))) he1
        have ev1 : (upd H8 pe1 (.lst (evens (ps.map V.int)))) pe1 = _ := upd_same
        generalize upd H8 pe1 (.lst (evens (ps.map V.int))) = H9 at se1 ev1 ⊢
        refine ⟨_, rfl, _, rfl, _, rfl, p9, _, rfl, SqL.of (se1 _ _ e9), (fun z => by cases z), by rw [pickV_odds]; exact len_line (by omega), fun po1 ho1 => ?_⟩
        rw [pickV_odds]
        have so1 := same_upd (o := .lst (odds (ps.map V.int))) ho1
        have od1 : (upd H9 po1 (.lst (odds (ps.map V.int)))) po1 = _ := upd_same
        generalize upd H9 po1 (.lst (odds (ps.map V.int))) = HA at so1 od1 ⊢
        refine ⟨pe1, po1, _, _, rfl, SqL.of (so1 _ _ ev1), SqL.of od1, by rw [evens_len, odds_len, List.length_map]; omega, by omega, fun pt Ts HB sB lT hT2 hpt => ?_⟩
        refine ⟨len_line (by show 3 ≤ 100000; decide), fun pb hpb => ?_⟩
        have sAB := (se1.trans so1).trans sB
        have spt := same_upd (o := .tup (Ts.map V.ref)) hpt
        have sAll := sAB.trans spt
        obtain ⟨UB, xB, nB⟩ := Ext.all x8.vh sAll
        have xC := (x8.trans xB).trans (Ext.new (o := .tup [.int bg, .int en, .ref pt]) xB.vh hpb)
        have nn : ∀ z, HB z = none → H8 z = none := fun z hz => sAB.free hz
        have ept : UB pt = some (.tup (Ts.map V.ref)) := by rw [nB pt (nn pt hpt)]; exact upd_same
        have dsp : DpAll K UB (Ts.map V.ref) ((pairsOf ps).map spanD) := by
          refine dpall_ix (by rw [List.length_map, List.length_map, lT, evens_len, List.length_map, pairs_len]; omega) fun j v dd hv hdd => ?_
          rw [List.getElem?_map] at hv hdd
          obtain ⟨t, ht, rfl⟩ := Option.map_eq_some_iff.mp hv
          obtain ⟨sp, hsp, rfl⟩ := Option.map_eq_some_iff.mp hdd
          obtain ⟨y1, y2, h1, h2, h3, h4⟩ := hT2 j t ht
          rw [evens_map, List.getElem?_map] at h1
          rw [odds_map, List.getElem?_map] at h2
          obtain ⟨a1, ha1, rfl⟩ := Option.map_eq_some_iff.mp h1
          obtain ⟨b1, hb1, rfl⟩ := Option.map_eq_some_iff.mp h2
          have := pairs_zip ps ha1 hb1
          rw [hsp] at this
          obtain rfl := Option.some.inj this
          have h8 : H8 t = none := (se1.trans so1).free h4
          refine mk_span (SqT.of ?_)
          rw [nB t h8]
          exact spt _ _ h3
        have sBC := same_upd (o := .tup [.int bg, .int en, .ref pt]) (none_of_same xB.vh hpb)
        have dB : Dp K (upd UB pb (.tup [.int bg, .int en, .ref pt])) (.ref pb) (bandD (bg, en, pairsOf ps)) := mk_band (b := (bg, en, pairsOf ps)) (SqT.of upd_same) (sBC.sqt (SqT.of ept)) (dsp.to sBC)
        have vC : ∀ z : Addr, U z = none → H8 z ≠ none → (upd UB pb (.tup [.int bg, .int en, .ref pt])) z = none := fun z z1 z2 => by
          have h1 : UB z = none := xB.keepOut z1 z2
          have h2 : z ≠ pb := fun y => by
            obtain ⟨u, e⟩ := Option.ne_none_iff_exists'.mp z2
            have e2 := sAll _ _ e
            rw [y, hpb] at e2; cases e2
          rw [upd_ne h2]; exact h1
        have eDC := (sAll.trans (same_upd (o := .tup [.int bg, .int en, .ref pt]) hpb)) _ _ eD8
        have eoC := (sAll.trans (same_upd (o := .tup [.int bg, .int en, .ref pt]) hpb)) _ _ eo8
        have vD := vC D uD5 (by rw [eD8]; exact fun z => by cases z)
        have vo := vC o uo5 (by rw [eo8]; exact fun z => by cases z)
        have lz : zs.length < 99999 := by
          have h1 := dpall_len dz
          rw [List.length_map] at h1
          have h2 := congrArg List.length I.sg
          rw [List.length_map, List.length_take] at h2
          omega
        refine ⟨D, _, _, rfl, rfl, eDC, lt_line (by omega), ?_⟩
        refine ⟨_, _, _, _, _, _, bs ++ [(bg, en, pairsOf ps)], _, rfl, xC.poke hD2 vD, sU.trans (xB.vv.trans sBC), vo, vD, (upd_ne hDo).trans eoC, upd_same, ?_, I'⟩
        rw [List.map_append]
        exact dpall_app ((dz.to xB.vv).to sBC) (.cons dB .nil)
    · rintro σ H5 ⟨v6, v7, v8, v9, U, zs, bs, ks, rfl, x5, sU, uo5, uD5, eo5, eD5, dz, I⟩
      obtain ⟨rg', sq⟩ := I.done rg hp he
      have lb : bs.length ≤ 20000 := by
        have h2 := congrArg List.length I.sg
        rw [List.length_map, List.length_take] at h2
        omega
      have xt := x5.take hD2 uD5 eD5
      refine ⟨_, rfl, bs, _, _, rfl, xt.vh, .lst (SqL.of upd_same) (dz.to (same_upd uD5)), lb, fun v' U' H' x' d' => ?_⟩
      exact q v' _ H' (s12.trans (x5.hh.trans x'.hh)) (d'.to x'.vh) rg' sq
/-! ### mirrored -/
theorem walk_revT {K : PySem.W.Frag} {a : Addr} {xs : List V} : Walk (RT.ItvT K a xs.length) xs.length (fun H => SqT K H a xs) (fun i H x H' => H' = H ∧ xs[xs.length - 1 - i]? = some x) :=
  ⟨fun i _ hi q => ⟨hi, xs, xs[xs.length - 1 - i]'(by omega), q, by simp [show xs.length - 1 - i < xs.length by omega]⟩, fun _ _ => Nat.le_refl _, fun _ _ _ _ _ q y => ⟨y.1, y.2 xs q⟩⟩
def mirB (wd : Int) (b : Band) : Band := (b.1, b.2.1, b.2.2.reverse.map fun s => (wd - s.2, wd - s.1))
theorem inS_rev (l : List Span) (wd x : Int) : inS (l.reverse.map fun s => ((wd - s.2, wd - s.1) : Span)) x = inS l (wd - 1 - x) := by
  rw [Bool.eq_iff_iff, inS_ex, inS_ex]
  constructor
  · rintro ⟨s, hs, h1, h2⟩
    obtain ⟨t, ht, rfl⟩ := List.mem_map.mp hs
    have h1' : wd - t.2 ≤ x := h1
    have h2' : x < wd - t.1 := h2
    exact ⟨t, List.mem_reverse.mp ht, by omega, by omega⟩
  · rintro ⟨t, ht, h1, h2⟩
    exact ⟨(wd - t.2, wd - t.1), List.mem_map.mpr ⟨t, List.mem_reverse.mpr ht, rfl⟩, by show wd - t.2 ≤ x; omega, by show x < wd - t.1; omega⟩
theorem mir_sq (wd : Int) (R : List Band) (x y : Int) : hasSq (R.map (mirB wd)) x y = hasSq R (wd - 1 - x) y := by
  induction R with
  | nil => rfl
  | cons b t ih =>
    show (if b.1 ≤ y ∧ y < b.2.1 then inS (b.2.2.reverse.map fun s => ((wd - s.2, wd - s.1) : Span)) x else hasSq (t.map (mirB wd)) x y) = if b.1 ≤ y ∧ y < b.2.1 then inS b.2.2 (wd - 1 - x) else hasSq t (wd - 1 - x) y
    rw [ih, inS_rev]
theorem mir_inj {wd : Int} {l m : List Span} (h : l.reverse.map (fun s => ((wd - s.2, wd - s.1) : Span)) = m.reverse.map (fun s => ((wd - s.2, wd - s.1) : Span))) : l = m := by
  have h2 : l.reverse = m.reverse := by
    generalize l.reverse = a at h
    generalize m.reverse = b at h
    induction a generalizing b with
    | nil => cases b with
      | nil => rfl
      | cons y b => cases h
    | cons x a ih => cases b with
      | nil => cases h
      | cons y b =>
        rw [List.map_cons, List.map_cons] at h
        injection h with h1 h2
        have e1 : wd - x.2 = wd - y.2 := congrArg Prod.fst h1
        have e2 : wd - x.1 = wd - y.1 := congrArg Prod.snd h1
        rw [ih b h2, show x = y from Prod.ext (by omega) (by omega)]
  exact List.reverse_inj.mp h2
theorem CanU.mir {R : List Band} (h : CanU R) (wd : Int) : CanU (R.map (mirB wd)) := by
  refine ⟨⟨fun q hq => ?_, List.pairwise_map.mpr (h.rows.ord.imp fun {p q} z => z)⟩, fun q hq => ?_, fun i p q hp hq => ?_, fun q hq => ?_⟩
  · obtain ⟨b, hb, rfl⟩ := List.mem_map.mp hq
    exact h.rows.pos b hb
  · obtain ⟨b, hb, rfl⟩ := List.mem_map.mp hq
    have g := h.gap b hb
    refine ⟨fun s hs => ?_, List.pairwise_map.mpr (List.pairwise_reverse.mpr (g.gap.imp fun {s t} z => by show wd - t.1 < wd - s.2; omega))⟩
    obtain ⟨s', hs', rfl⟩ := List.mem_map.mp hs
    have := g.pos s' (List.mem_reverse.mp hs')
    show wd - s'.2 < wd - s'.1
    omega
  · rw [List.getElem?_map] at hp hq
    obtain ⟨b, hb, rfl⟩ := Option.map_eq_some_iff.mp hp
    obtain ⟨c, hc, rfl⟩ := Option.map_eq_some_iff.mp hq
    have k := h.ch i b c hb hc
    unfold bdC at k ⊢
    rw [← Bool.not_eq_true, Bool.and_eq_true, decide_eq_true_eq, decide_eq_true_eq] at k ⊢
    intro ⟨k1, k2⟩
    exact k ⟨k1, mir_inj k2⟩
  · obtain ⟨b, hb, rfl⟩ := List.mem_map.mp hq
    intro e
    have e' : b.2.2.reverse.map (fun s => ((wd - s.2, wd - s.1) : Span)) = [] := e
    exact h.ne b hb (List.reverse_eq_nil_iff.mp (List.map_eq_nil_iff.mp e'))
theorem RegIn.mir {X Y : List Int} {R : List Band} (h : RegIn X Y R) (wd : Int) : RegIn (X.map fun z => wd - z) Y (R.map (mirB wd)) := by
  refine ⟨h.u.mir wd, fun q hq => ?_, fun q hq s hs => ?_⟩
  · obtain ⟨b, hb, rfl⟩ := List.mem_map.mp hq
    exact h.ys b hb
  · obtain ⟨b, hb, rfl⟩ := List.mem_map.mp hq
    obtain ⟨t, ht, rfl⟩ := List.mem_map.mp hs
    have ht' := List.mem_reverse.mp ht
    exact ⟨List.mem_map_of_mem (h.xs b hb t ht').2, List.mem_map_of_mem (h.xs b hb t ht').1⟩
def sp_mirrored (K : PySem.W.Frag) : Sp := fun vs H Q _ => ∃ (r : V) (R : List Band) (wd : Int), vs = [r, .int wd] ∧ Dp K H r (regD R) ∧ RegOk R ∧ ∀ v H', Same H H' → Dp K H' v (regD (R.map (mirB wd))) → Q v H'
theorem sc_mirrored : FnScope ["region", "width", "begin", "end", "top", "bottom", "spans"] ["region", "width"] (defScope s_mirrored) := ⟨rfl, rfl, rfl, by decide +kernel, rfl, by decide +kernel, by decide +kernel⟩
theorem ok_mirrored (T : Txt K mg A) : FnOk P w K mg base CX0 1 A.fmirrored A.dmirrored ["region", "width"] (sp_mirrored K) := by
  refine T.Fmirrored.ok sc_mirrored (fun vs H Q E h => ?_) (fun cdv Ar outer s H vs Q E hr h => ?_)
  · obtain ⟨_, _, _, rfl, _⟩ := h
    rfl
  · obtain ⟨r, R, wd, rfl, dR, oR, q⟩ := h
    obtain ⟨pa, xa, rfl, hpa, hxa⟩ := dp_list dR
    have lx : xa.length = R.length := by rw [dpall_len hxa, List.length_map]
    have fw := oR.few
    refine ⟨_, (pss_one (ps_ret (pe_lc (own := [("top", 4), ("bottom", 5), ("spans", 6)]) (g := (gTup K 3 (gCons (gName 4) (gCons (gName 5) (gCons (gName 6) gNil))))) (tt := tYes) rfl sc_mirrored.nd (pi_list (pv 0)) (blkOk_by (own := [("top", 4), ("bottom", 5), ("spans", 6)]) (N := ["region", "width", "begin", "end", "top", "bottom", "spans"]) (sc := defScope s_mirrored) (by decide +kernel)) (fun _ _ _ _ _ => by exact (pg_tup rfl (pgs_cons (pg_name (i := 4) sc_mirrored.nd rfl (Or.inl rfl)) (pgs_cons (pg_name (i := 5) sc_mirrored.nd rfl (Or.inl rfl)) (pgs_cons (pg_name (i := 6) sc_mirrored.nd rfl (Or.inl rfl)) pgs_nil))))) (fun _ _ _ _ _ => pts_nil) (fun _ _ _ _ _ => by exact (pe_tup (pa_cons (pv 4) (pa_cons (pv 5) (pa_cons (pe_callTy (r := rTupOf K) call_tuple_of (by rfl) T.tuple (by decide +kernel) (pa_cons (pe_lc (wi := RT.iRevA K (tVar 6)) (own := [("begin", 2), ("end", 3)]) (g := (gTup K 2 (gCons (gName 2) (gCons (gName 3) gNil)))) (tt := tYes) rfl sc_mirrored.nd (RT.pi_revA (by rfl) T.reversed (pv 6)) (blkOk_by (own := [("begin", 2), ("end", 3)]) (N := ["region", "width", "begin", "end", "top", "bottom", "spans"]) (sc := { kind := ScopeKind.function, names := [(".0", NameKind.local), ("top", NameKind.local), ("bottom", NameKind.local), ("spans", NameKind.local), ("tuple", NameKind.globalImplicit), ("reversed", NameKind.globalImplicit), ("width", NameKind.cell)], isGenerator := false, isCoroutine := false }) (by decide +kernel)) (fun _ _ _ _ _ => by exact (pg_tup rfl (pgs_cons (pg_name (i := 2) sc_mirrored.nd rfl (Or.inl rfl)) (pgs_cons (pg_name (i := 3) sc_mirrored.nd rfl (Or.inl rfl)) pgs_nil)))) (fun _ _ _ _ _ => pts_nil) (fun _ _ _ _ _ => by exact (pe_tup (pa_cons (pe_op op_sub (pv 1) (pv 3)) (pa_cons (pe_op op_sub (pv 1) (pv 2)) pa_nil))))) pa_nil)) pa_nil)))))))), ?_⟩
    refine ⟨_, rfl, pa, rfl, ⟨_, hpa⟩, fun D hD => ?_⟩
    refine lc_dp (walk_list (K := K) (a := pa) (xs := xa)) (K := K) (V0 := H) (H0 := H) (fun i => (R[i]?).map fun b => bandD (mirB wd b)) _ rfl (Same.refl _) hD (by omega) (fun H' s => s.seq hpa) (fun i x H H' y => y.1) ?_ ?_
    · rintro j v V3 H3 hj x3 ⟨_, hv⟩ Qy Qn hy _
      obtain ⟨d, hd, dv⟩ := dpall_get hxa hv
      rw [List.getElem?_map] at hd
      obtain ⟨b, hb, rfl⟩ := Option.map_eq_some_iff.mp hd
      obtain ⟨ab, p, ss, rfl, qa, qp, qs⟩ := dp_band dv
      have fs := oR.fews b (List.mem_of_getElem? hb)
      have lss : ss.length = b.2.2.length := by rw [dpall_len qs, List.length_map]
      have qp3 := x3.hh.sqt qp
      refine ⟨ab, _, rfl, x3.hh.sqt qa, rfl, _, _, rfl, _, _, rfl, _, _, rfl, rfl, rfl, ?_⟩
      refine ⟨_, rfl, _, rfl, _, rfl, p, ss, rfl, .inr ⟨qp3, fun D2 hD2 => ?_⟩⟩
      refine lc_dp (walk_revT (K := K) (a := p) (xs := ss)) (K := K) (V0 := V3) (H0 := H3) (fun i => ((b.2.2.reverse)[i]?).map fun s => spanD (wd - s.2, wd - s.1)) _ rfl x3.vh hD2 (by omega) (fun H' s => s.sqt qp3) (fun i x H H' y => y.1) ?_ ?_
      · rintro k v V4 H4 hk x4 ⟨_, hv⟩ Qy2 Qn2 hy2 _
        obtain ⟨d, hd, dv⟩ := dpall_get qs hv
        rw [List.getElem?_map] at hd
        obtain ⟨sp, hsp, rfl⟩ := Option.map_eq_some_iff.mp hd
        obtain ⟨as, rfl, qsp⟩ := dp_span dv
        have hrev : (b.2.2.reverse)[k]? = some sp := by rw [List.getElem?_reverse (by omega), ← lss]; exact hsp
        refine ⟨as, _, rfl, x4.hh.sqt (x3.hh.sqt qsp), rfl, _, _, rfl, _, _, rfl, rfl, rfl, _, rfl, _, rfl, _, _, rfl, rfl, _, rfl, _, rfl, _, _, rfl, rfl, len_line (by show 2 ≤ 100000; decide), fun pt nt => ?_⟩
        exact hy2 (spanD (wd - sp.2, wd - sp.1)) _ _ _ (by rw [hrev]; rfl) (Ext.new x4.vh nt) (mk_span (SqT.of upd_same))
      · rintro V5 H5 zs x5 hz d5 _
        rw [show ss.length = b.2.2.reverse.length by rw [List.length_reverse]; exact lss, fm_map] at d5
        refine ⟨D2, zs, rfl, .inl ⟨x5.vh.seq (SqL.of hz), fun lt ht => ⟨len_line (by show 3 ≤ 100000; decide), fun pt nt => ?_⟩⟩⟩
        have x6 := x5.trans (Ext.new (o := .tup zs) x5.vh ht)
        have x7 := x6.trans (Ext.new (o := .tup [.int b.1, .int b.2.1, .ref lt]) x6.vh nt)
        have s6 := same_upd (o := .tup zs) (none_of_same x5.vh ht)
        have s7 := same_upd (o := .tup [.int b.1, .int b.2.1, .ref lt]) (none_of_same x6.vh nt)
        refine hy (bandD (mirB wd b)) _ _ _ (by rw [hb]; rfl) x7 (mk_band (b := mirB wd b) (SqT.of upd_same) (s7.sqt (SqT.of upd_same)) ?_)
        show DpAll K _ zs ((b.2.2.reverse.map fun s => (wd - s.2, wd - s.1)).map spanD)
        rw [List.map_map]
        exact (d5.to s6).to s7
    · rintro U HA ys xx _ _ dv
      rw [lx, fm_map] at dv
      refine q _ _ xx.hh (dv.to xx.vh |> fun z => ?_)
      unfold regD; rw [List.map_map]; exact z
section
/-! ### a, b, *r = a list (our own rule, along the library's for lists of a known length) -/
open PySem PySem.Spec PySem.Calls PyProof.Rows PySem.W
theorem unpack_star {prog : Program} {w : World} {A : Around} {E : Value → Shared → Prop} {s : Shared} {l : Addr} {items : Array Value} {n : Nat} {Q : List Value → Shared → Prop} (hl : s.heap.IsList l items) (hh : A.handled = none) (hn : n ≤ items.size) (hz : items.size ≤ 16384)
    (h : ∀ (h' : Heap) tk, (∀ b o, s.heap.get? b = some o → h'.get? b = some o) → Q (items.toList.take n ++ [.ref h'.objs.size]) { s with heap := h'.push { cls := .type "list", data := .seq (items.toList.drop n).toArray }, toks := tk }) : wpAny (model prog w) A (unpackItems (.ref l) (n + 1) (some n)) Q E s := by
  have hlt : l ≠ s.heap.objs.size := by obtain ⟨o, ho, _⟩ := hl; exact Nat.ne_of_lt (Heap.lt_size ho)
  unfold unpackItems
  refine wpAny_bind ?_
  unfold notIterableAtAll
  refine wpAny_bind (wpAny_specialOf hl.typeIs slot_list_iter.lookup ?_)
  refine wpAny_pure ?_
  simp only [Bool.false_eq_true, if_false]
  refine wpAny_bind (wpAny_holding (wpAny_pyIter_list hl ?_))
  refine wpAny_bind (wpAny_holding (kun_draw hlt n 0 _ _ ⟨_, Heap.get?_push_size _ rfl, rfl, rfl⟩ (hl.push _) (by omega) fun h₁ hit₁ hs₁ => ?_))
  have hl₁ : h₁.IsList l items := (hl.push _).extBut hs₁.extBut hlt
  rw [Nat.zero_add] at hit₁
  have hit₁' := hit₁
  obtain ⟨oi, hoi, _⟩ := hit₁'
  have hl₁' := hl₁
  obtain ⟨ol, hol, _⟩ := hl₁'
  rw [List.drop_zero]
  have hfl : (items.toList.take n).length = n := by rw [List.length_take, Array.length_toList]; omega
  rw [if_neg (show ¬ ((items.toList.take n).length < n) by rw [hfl]; omega)]
  refine wpAny_bind (wpAny_holding (kun_collect (s := { s with heap := h₁ }) (T := "list_iterator") (.inr (.inr (.inl rfl))) (Walks.list (A := A.in1) hh s.heap.objs.size l hlt items) (fun j u st => st.1.typeIs) (k := n) (by omega) ⟨hit₁, hl₁⟩ (Heap.lt_size hoi) (Heap.lt_size hol) (fun h₂ tk hk => ?_) (by rw [sizeLine_eq]; omega)))
  have hrl : (items.toList.drop n).length = items.size - n := by rw [List.length_drop, Array.length_toList]
  have hmid : (items.toList.drop n).length - (n + 1 - 1 - n) = items.size - n := by rw [hrl]; omega
  show wpAny _ _ (if (items.toList.drop n).length < n + 1 - 1 - n then _ else _) _ _ _
  rw [if_neg (by rw [hrl]; omega)]
  show wpAny _ _ (newList ((items.toList.drop n).take ((items.toList.drop n).length - (n + 1 - 1 - n))) >>= fun d => pure (items.toList.take n ++ [d] ++ (items.toList.drop n).drop ((items.toList.drop n).length - (n + 1 - 1 - n)))) _ _ _
  rw [hmid, show (items.toList.drop n).take (items.size - n) = items.toList.drop n from List.take_of_length_le (by rw [hrl]; omega), show (items.toList.drop n).drop (items.size - n) = [] from List.drop_of_length_le (by rw [hrl]; omega)]
  have he : ∀ b o, s.heap.get? b = some o → h₂.get? b = some o := fun b o e => hk b o (Nat.ne_of_lt (Heap.lt_size e)) (hs₁.extBut b o (Nat.ne_of_lt (Heap.lt_size e)) (Heap.get?_push_of_some _ e))
  refine wpAny_bind (wpAny_newList (wpAny_pure ?_) (by rw [hrl, sizeLine_eq]; omega))
  rw [List.append_nil]
  exact h h₂ tk he
def gUnlS (K : PySem.W.Frag) (n : Nat) (t : TGs) : TG := fun v σ H Q => ∃ a xs, v = .ref a ∧ SqL K H a xs ∧ n ≤ xs.length ∧ xs.length ≤ 1000 ∧ ∀ D, H D = none → t (xs.take n ++ [.ref D]) σ (upd H D (.lst (xs.drop n))) Q
theorem pgs_star {X : Cx} {e : Expr} {p : Pos} {es : List Expr} {t : TG} {u : TGs} (h1 : PG X e t) (h2 : PGs X es u)
    (hs : (assignEach (.Starred e p :: es) X.env).map (·.2) = assign e X.env :: (assignEach es X.env).map (·.2) := by rfl) : PGs X (.Starred e p :: es) (gCons t u) := by
  refine ⟨fun pins s σ H vs us Q I r h => ?_⟩
  obtain ⟨v, vr, e1, h⟩ := h
  subst e1
  cases r with
  | cons r rr =>
    rw [hs]
    refine assignInOrder_cons (thn (h1.run pins s σ H _ _ _ I r h) fun _ s1 ⟨σ1, H1, I1, q1⟩ => ?_)
    exact h2.run pins s1 σ1 H1 _ _ Q I1 rr q1
theorem pg_unlS {X : Cx} {pos : Pos} {es : List Expr} {k : Nat} {t : TGs} {n : Nat} (hc : X.calm = true) (h : PGs X es t)
    (hn : (assignEach es X.env).length = n + 1 := by rfl) (hst : (assignEach es X.env).findIdx? (·.1) = some n := by rfl) : PG X (.Tuple es k pos) (gUnlS X.K n t) := by
  refine ⟨fun pins s σ H v u Q I r hw => ?_⟩
  obtain ⟨a, xs, e1, hq, hl, hl2, hw⟩ := hw
  subst e1
  cases r
  obtain ⟨its, rv, pl, hz⟩ := I.list hq
  have hl' : s.heap.IsList a its.toArray := by
    obtain ⟨o, m, e, c, d, q⟩ := pl
    exact ⟨o, e, c, m, q⟩
  have hlen := rv.length
  rw [PyProof.Rows.assign_Tuple]
  refine wpAny_bind (wpAny_standAt ?_)
  unfold unpack
  rw [hn, hst]
  refine wpAny_bind (wpAny_holding (unpack_star hl' (I.ok.hd hc) (by rw [List.size_toArray]; omega) (by rw [List.size_toArray]; omega) fun h' tk hx => ?_))
  have I1 : Inv X pins σ H { s with heap := h', toks := tk } := I.kept (t' := tk) fun b o e => hx b o e
  have hf := I1.hok.fresh (Nat.le_refl _)
  have I2 := I1.laid (t' := tk) (o := .lst (xs.drop n)) (fun b u e => Heap.get?_push_of_some _ e) (Nat.le_refl _) ⟨Nat.le_trans (by rw [List.length_drop]; omega) (len_line (n := 1000) (by decide)), its.drop n, 0, rv.drop n, Heap.get?_push_size _ rfl⟩
  exact h.run pins _ σ _ _ _ Q I2 (by
    rw [List.toList_toArray]
    exact (rv.take n).append (.cons rfl .nil)) (hw _ hf)
end
section
/-! ### a, b, *r = a tuple (as rule_star, for tuples) -/
open PySem PySem.Spec PySem.Calls PyProof.Rows PySem.W
theorem unpack_starT {prog : Program} {w : World} {A : Around} {E : Value → Shared → Prop} {s : Shared} {l : Addr} {items : Array Value} {n : Nat} {Q : List Value → Shared → Prop} (hl : IsTup s.heap l items) (hh : A.handled = none) (hn : n ≤ items.size) (hz : items.size ≤ 16384)
    (h : ∀ (h' : Heap) tk, (∀ b o, s.heap.get? b = some o → h'.get? b = some o) → Q (items.toList.take n ++ [.ref h'.objs.size]) { s with heap := h'.push { cls := .type "list", data := .seq (items.toList.drop n).toArray }, toks := tk }) : wpAny (model prog w) A (unpackItems (.ref l) (n + 1) (some n)) Q E s := by
  have hlt : l ≠ s.heap.objs.size := by obtain ⟨o, ho, _⟩ := hl; exact Nat.ne_of_lt (Heap.lt_size ho)
  unfold unpackItems
  refine wpAny_bind ?_
  unfold notIterableAtAll
  refine wpAny_bind (wpAny_specialOf hl.typeIs slot_tuple_iter.lookup ?_)
  refine wpAny_pure ?_
  simp only [Bool.false_eq_true, if_false]
  refine wpAny_bind (wpAny_holding (iter_tuple hl ?_))
  refine wpAny_bind (wpAny_holding (draw_tuple hlt n 0 _ _ ⟨_, Heap.get?_push_size _ rfl, rfl, rfl⟩ (hl.push _) (by omega) fun h₁ hit₁ hs₁ => ?_))
  have hl₁ : IsTup h₁ l items := (hl.push _).extBut hs₁.extBut hlt
  rw [Nat.zero_add] at hit₁
  have hit₁' := hit₁
  obtain ⟨oi, hoi, _⟩ := hit₁'
  have hl₁' := hl₁
  obtain ⟨ol, hol, _⟩ := hl₁'
  rw [List.drop_zero]
  have hfl : (items.toList.take n).length = n := by rw [List.length_take, Array.length_toList]; omega
  rw [if_neg (show ¬ ((items.toList.take n).length < n) by rw [hfl]; omega)]
  refine wpAny_bind (wpAny_holding (kun_collect (s := { s with heap := h₁ }) (T := "tuple_iterator") (.inr (.inr (.inr rfl))) (Walks.tuple (A := A.in1) hh s.heap.objs.size l hlt items) (fun j u st => st.1.typeIs) (k := n) (by omega) ⟨hit₁, hl₁⟩ (Heap.lt_size hoi) (Heap.lt_size hol) (fun h₂ tk hk => ?_) (by rw [sizeLine_eq]; omega)))
  have hrl : (items.toList.drop n).length = items.size - n := by rw [List.length_drop, Array.length_toList]
  have hmid : (items.toList.drop n).length - (n + 1 - 1 - n) = items.size - n := by rw [hrl]; omega
  show wpAny _ _ (if (items.toList.drop n).length < n + 1 - 1 - n then _ else _) _ _ _
  rw [if_neg (by rw [hrl]; omega)]
  show wpAny _ _ (newList ((items.toList.drop n).take ((items.toList.drop n).length - (n + 1 - 1 - n))) >>= fun d => pure (items.toList.take n ++ [d] ++ (items.toList.drop n).drop ((items.toList.drop n).length - (n + 1 - 1 - n)))) _ _ _
  rw [hmid, show (items.toList.drop n).take (items.size - n) = items.toList.drop n from List.take_of_length_le (by rw [hrl]; omega), show (items.toList.drop n).drop (items.size - n) = [] from List.drop_of_length_le (by rw [hrl]; omega)]
  have he : ∀ b o, s.heap.get? b = some o → h₂.get? b = some o := fun b o e => hk b o (Nat.ne_of_lt (Heap.lt_size e)) (hs₁.extBut b o (Nat.ne_of_lt (Heap.lt_size e)) (Heap.get?_push_of_some _ e))
  refine wpAny_bind (wpAny_newList (wpAny_pure ?_) (by rw [hrl, sizeLine_eq]; omega))
  rw [List.append_nil]
  exact h h₂ tk he
def gUnlST (K : PySem.W.Frag) (n : Nat) (t : TGs) : TG := fun v σ H Q => ∃ a xs, v = .ref a ∧ SqT K H a xs ∧ n ≤ xs.length ∧ xs.length ≤ 1000 ∧ ∀ D, H D = none → t (xs.take n ++ [.ref D]) σ (upd H D (.lst (xs.drop n))) Q
theorem pg_unlST {X : Cx} {pos : Pos} {es : List Expr} {k : Nat} {t : TGs} {n : Nat} (hc : X.calm = true) (h : PGs X es t)
    (hn : (assignEach es X.env).length = n + 1 := by rfl) (hst : (assignEach es X.env).findIdx? (·.1) = some n := by rfl) : PG X (.Tuple es k pos) (gUnlST X.K n t) := by
  refine ⟨fun pins s σ H v u Q I r hw => ?_⟩
  obtain ⟨a, xs, e1, hq, hl, hl2, hw⟩ := hw
  subst e1
  cases r
  obtain ⟨its, rv, hl', hz⟩ := I.tuple hq
  have hlen := rv.length
  rw [PyProof.Rows.assign_Tuple]
  refine wpAny_bind (wpAny_standAt ?_)
  unfold unpack
  rw [hn, hst]
  refine wpAny_bind (wpAny_holding (unpack_starT hl' (I.ok.hd hc) (by rw [List.size_toArray]; omega) (by rw [List.size_toArray]; omega) fun h' tk hx => ?_))
  have I1 : Inv X pins σ H { s with heap := h', toks := tk } := I.kept (t' := tk) fun b o e => hx b o e
  have hf := I1.hok.fresh (Nat.le_refl _)
  have I2 := I1.laid (t' := tk) (o := .lst (xs.drop n)) (fun b u e => Heap.get?_push_of_some _ e) (Nat.le_refl _) ⟨Nat.le_trans (by rw [List.length_drop]; omega) (len_line (n := 1000) (by decide)), its.drop n, 0, rv.drop n, Heap.get?_push_size _ rfl⟩
  exact h.run pins _ σ _ _ _ Q I2 (by
    rw [List.toList_toArray]
    exact (rv.take n).append (.cons rfl .nil)) (hw _ hf)
end
section
/-! ### several except clauses that name the error (our own rule: the library has one such clause, or several without a name) -/
open PySem PySem.Spec PyProof.Rows
abbrev ClAs := Nat × Value × (Addr → Value → Option Addr → TS)
/-- what the clauses ask of an error, one behind the other -/
def wAsAll (K : PySem.W.Frag) (Wo : WX) (D : Ends) : List ClAs → WX
  | [] => Wo
  | (i, c, ts) :: r => wAs K c i ts (wAsAll K Wo D r) D
inductive HdsAs (X : Cx) : List ExceptHandler → List ClAs → Prop
  | nil : HdsAs X [] []
  | cons {x n : Str} {i : Nat} {c : Value} {ts : Addr → Value → Option Addr → TS} {b : Stmt} {bs : List Stmt} {p1 p2 : Pos} {hds : List ExceptHandler} {l : List ClAs} (hi : X.N[i]? = some n) (hl : X.env.kindOf n = some .local) (hc : Names X x c)
      (suite : ∀ (a : Addr) (oe : Obj) (cls : Value) (d : Option Addr) (pn : List (Addr × Obj)), Zc cls d oe → (∃ vs, oe.data = .fields vs) → PSs (X.suite a ((a, oe) :: pn)) (b :: bs) (ts a cls d)) (more : HdsAs X hds l) :
      HdsAs X (.ExceptHandler (some (.Name x p1)) (some n) (b :: bs) p2 :: hds) ((i, c, ts) :: l)
/-- an error in flight where named clauses are tried -/
structure AirC (X : Cx) (pins : List (Addr × Obj)) (σ : L2.St) (H : Hp) (a : Addr) (cls : Value) (d : Option Addr) (B : Heap) (sI s : Shared) : Prop where
  inv : Inv X pins σ H sI
  nb : ∀ b o, sI.heap.get? b = some o → b ∉ frs X.stack → B.get? b = some o
  up : sI.heap.UpToSlots s.heap
  fl : HandSPX.FlyingZ B (X.env :: X.outer) a (Zc cls d) s.heap
  na : H a = none
  os : s.os = sI.os
  bare : AllBare s.gens
section
variable {X : Cx} {pins : List (Addr × Obj)} {σ : L2.St} {H : Hp} {a : Addr} {cls : Value} {d : Option Addr} {B : Heap} {sI s : Shared} {Wo : WX} {D : Ends}
theorem AirC.now (F : AirC X pins σ H a cls d B sI s) : Inv X pins σ H s := F.inv.landed F.nb F.fl.1 F.up F.os F.bare
theorem AirC.on {h : Heap} (F : AirC X pins σ H a cls d B sI s) (fl : HandSPX.FlyingZ B (X.env :: X.outer) a (Zc cls d) h) (up : s.heap.UpToSlots h) : AirC X pins σ H a cls d B sI { s with heap := h } :=
  ⟨F.inv, F.nb, F.up.trans up, fl, F.na, F.os, F.bare⟩
theorem AirC.suite (F : AirC X pins σ H a cls d B sI s) (hf : X.env.frame = some X.env.locals) : ∃ oe vs, s.heap.get? a = some oe ∧ Zc cls d oe ∧ oe.data = .fields vs ∧ Inv (X.suite a ((a, oe) :: (X.pn ++ pins))) [] σ H s := by
  obtain ⟨oe, vs, he, hz, hd⟩ := F.fl.there
  have off : a ∉ frs (X.env :: X.outer) := fun m => by
    obtain ⟨_, o, eo, no⟩ := F.fl.2.2.1.mem m
    cases he.symm.trans eo
    exact no _ hd
  refine ⟨oe, vs, he, hz, hd, F.now.suite he hd F.na (fun z => off ?_) (fun m => off ?_)⟩
  · exact List.mem_filterMap.mpr ⟨X.env, List.mem_cons_self, by rw [hf, z]⟩
  · obtain ⟨e, he, q⟩ := List.mem_filterMap.mp m
    exact List.mem_filterMap.mpr ⟨e, List.mem_cons_of_mem _ he, q⟩
theorem AirC.out (F : AirC X pins σ H a cls d B sI s) (hs : X.stack = X.env :: X.outer) (hf : X.env.frame = some X.env.locals) (tk : L2.Takes X Wo) (w : Wo cls d σ H) : wpAny (model X.prog X.w) X.A (handleBy (.ref a) X.env []) (SP X pins D) X.xe s := by
  refine wpAny_handleBy_nil ?_
  obtain ⟨_, _, _, oe, vs, T, oT, ts, he, hz, hd, h1, _⟩ := id F.fl
  have last : wpAny (model X.prog X.w) X.A (setFlight (.ref a) X.env.frame) (fun _ s4 => wpAny (model X.prog X.w) X.A (throw (.ref a) : Sem Flow) (SP X pins D) X.xe s4) X.xe s := by
    rw [hf]
    refine HandSPX.setFlight_upZ F.fl fun h4 hh up4 => wpAny_throw (tk _ _ ?_)
    exact ⟨a, B, sI, pins, σ, H, cls, d, rfl, F.inv, F.nb, F.up.trans up4, .inr (.inr (by rw [hs]; exact hh)), F.na, F.os, F.bare, w⟩
  unfold PySem.passOn
  refine wpAny_bind (wpAny_field he hd h1 ?_)
  rw [if_neg (by simp)]
  first
    | exact wpAny_bind (wpAny_pure (wpAny_bind last))
    | exact wpAny_bind last
theorem HdsAs.run {hds : List ExceptHandler} {l : List ClAs} (hh : HdsAs X hds l) (ok : X.Ok) (hN : X.N.Nodup) (hs : X.stack = X.env :: X.outer) (hf : X.env.frame = some X.env.locals) (tk : L2.Takes X Wo)
    (F : AirC X pins σ H a cls d B sI s) (w : wAsAll X.K Wo D l cls d σ H) : wpAny (model X.prog X.w) X.A (handleBy (.ref a) X.env hds) (SP X pins D) X.xe s := by
  induction hh with
  | nil => exact F.out hs hf tk w
  | @cons x n i c ts b bs p1 p2 hds l hi hl hc suite more ih =>
    obtain ⟨y, hy, yes, no⟩ := w
    obtain ⟨oe, vs, he, hz, hd, S⟩ := F.suite hf
    refine wpAny_handleBy_cons (codeAny_handlers_test ?_) (by intro q; cases q)
    have T : PySem.W.Looks (model X.prog X.w) s.heap (typeOf (.ref a)) cls := fun A Q E s k q => wpAny_typeOf_ref (k _ _ he) (by rw [hz.1]; exact q)
    have named : ∀ {Q : Value → Shared → Prop} {E : Value → Shared → Prop}, Q c s → wpAny (model X.prog X.w) (X.A.mark (some (.ref a))) (eval (.Name x p1) X.env) Q E s := fun {Q E} q => by
      rcases hc with ⟨hg, hdb, hm | ⟨hm, hv, hn⟩⟩
      · exact ld_glob (X := X.suite a ((a, oe) :: (X.pn ++ pins))) S hg hm q hdb
      · exact ld_blt (X := X.suite a ((a, oe) :: (X.pn ++ pins))) S hg hm hv q hn hdb
    refine named ((PySem.W.exm_one (M := model X.prog X.w) F.now.kIn T hy).here ?_)
    cases y with
    | false => exact ih (no rfl)
    | true =>
      refine codeAny_handlers_suite_as (HandSPX.lands_againZ F.fl fun h4 fl4 up4 => ?_)
      obtain ⟨oe4, vs4, he4, hz4, hd4, S4⟩ := (F.on fl4 up4).suite hf
      refine store_ok (X := X.suite a ((a, oe4) :: (X.pn ++ pins))) (v := .ref a) S4 hN hi (.inl hl) rfl (fun s5 S5 => ?_) (.inr hl)
      refine wpAny_mono ((suite a oe4 cls d (X.pn ++ pins) hz4 ⟨_, hd4⟩).run [] s5 _ H _ S5 (yes rfl a F.na)) (fun f s6 r => ?_) (fun _ _ z => z.elim)
      have fin : ∀ {σ6 : L2.St} {H6 : Hp} {Z : Shared → Prop}, Inv (X.suite a ((a, oe4) :: (X.pn ++ pins))) [] σ6 H6 s6 → (∀ s7, Inv X pins (σ6.set i none) H6 s7 → Z s7) →
          wpAny (model X.prog X.w) X.A (do bindName X.env n .none; unbindBehindTheSuite X.env n p2) (fun _ s7 => Z s7) X.xe s6 := fun S6 k => gone_ok (S6.unsuite ok) hN hi hl k
      cases f with
      | next => obtain ⟨_, _, S6, q⟩ := r; exact fin S6 fun s7 J => ⟨_, _, J, q⟩
      | brk => obtain ⟨_, _, S6, q⟩ := r; exact fin S6 fun s7 J => ⟨_, _, J, q⟩
      | cont => obtain ⟨_, _, S6, q⟩ := r; exact fin S6 fun s7 J => ⟨_, _, J, q⟩
      | ret u => obtain ⟨_, _, _, S6, rv, q⟩ := r; exact fin S6 fun s7 J => ⟨_, _, _, J, rv, q⟩
end
theorem ps_try_manyAs {X : Cx} {body : List Stmt} {h₀ : ExceptHandler} {hds : List ExceptHandler} {l : List ClAs} {pos : Pos} {tb : WX → TS} {Wo : WX} (hs : X.stack = X.env :: X.outer) (hf : X.env.frame = some X.env.locals) (hN : X.N.Nodup) (tk : L2.Takes X Wo)
    (hb : ∀ (W : WX) (pn : List (Addr × Obj)) (xe : Value → Shared → Prop), Takes (X.tr pn xe) W → PassesOwn (model X.prog X.w) X.A X.env xe → PSs (X.tr pn xe) body (tb W)) (hh : HdsAs X (h₀ :: hds) l) :
    PS X (.Try body (h₀ :: hds) [] [] pos) (fun D σ H => tb (wAsAll X.K Wo D l) D σ H) := by
  refine ⟨fun pins s σ H D I h => wpAny_Try_except ?_⟩
  have ok := I.ok
  have fr : X.A.frames = some (X.env :: X.outer) := by rw [ok.frames, hs]
  refine wpAny_mono ((hb (wAsAll X.K Wo D l) (X.pn ++ pins) (fun e s₁ => wpAny (model X.prog X.w) X.A (noteFrame e X.env) (fun _ s₂ => wpAny (model X.prog X.w) X.A (setFlight e none) (fun _ s₃ =>
    wpAny (model X.prog X.w) X.A (handleBy e X.env (h₀ :: hds)) (SP X pins D) X.xe s₃) X.xe s₂) X.xe s₁) (fun u s' x => ?_) PassesOwn.looking).run [] s σ H D (I.toTry _) h) (fun f s1 r => ?_) (fun _ _ z => z)
  · obtain ⟨a, B, sI, _, σ1, H1, cls, d, rfl, J, nb, up, sky, na, os, bare, w⟩ := x
    have sky' : Sky B (X.env :: X.outer) a (Zc cls d) X.env.locals s'.heap := by rw [← hs]; exact sky
    show wpAny (model X.prog X.w) X.A (noteFrame (.ref a) X.env) _ _ _
    refine Sky.land Zc.steady fr hf sky' fun h3 fl3 up3 => ?_
    exact hh.run (s := { s' with heap := h3 }) ok hN hs hf tk ⟨J.ofTry ok, nb, up.trans up3, fl3, na, os, bare⟩ w
  · cases f with
    | next => obtain ⟨_, _, J, q⟩ := r; exact wpAny_execs_nil ⟨_, _, J.ofTry ok, q⟩
    | brk => obtain ⟨_, _, J, q⟩ := r; exact ⟨_, _, J.ofTry ok, q⟩
    | cont => obtain ⟨_, _, J, q⟩ := r; exact ⟨_, _, J.ofTry ok, q⟩
    | ret u => obtain ⟨_, _, _, J, rv, q⟩ := r; exact ⟨_, _, _, J.ofTry ok, rv, q⟩
end
/-! ### a scaled region keeps the one form -/
theorem scaleS_inj {n : Int} (hn : 0 < n) : ∀ l m : List Span, l.map (fun s : Span => (n * s.1, n * s.2)) = m.map (fun s : Span => (n * s.1, n * s.2)) → l = m
  | [], [], _ => rfl
  | [], _ :: _, h => by cases h
  | _ :: _, [], h => by cases h
  | s :: l, t :: m, h => by
    rw [List.map_cons, List.map_cons] at h
    injection h with h1 h2
    have e1 : n * s.1 = n * t.1 := congrArg Prod.fst h1
    have e2 : n * s.2 = n * t.2 := congrArg Prod.snd h1
    rw [scaleS_inj hn l m h2, show s = t from Prod.ext (Int.eq_of_mul_eq_mul_left (by omega) e1) (Int.eq_of_mul_eq_mul_left (by omega) e2)]
theorem CanU.scale {R : List Band} (h : CanU R) {n : Int} (hn : 0 < n) : CanU (R.map (mapB (fun z => n * z) (fun z => n * z))) := by
  have lt : ∀ {a b : Int}, a < b → n * a < n * b := fun z => Int.mul_lt_mul_of_pos_left z hn
  have le : ∀ {a b : Int}, a ≤ b → n * a ≤ n * b := fun z => Int.mul_le_mul_of_nonneg_left z (by omega)
  refine ⟨⟨fun q hq => ?_, List.pairwise_map.mpr (h.rows.ord.imp fun {p q} z => le (show p.2.1 ≤ q.1 from z))⟩, fun q hq => ?_, fun i p q hp hq => ?_, fun q hq => ?_⟩
  · obtain ⟨b, hb, rfl⟩ := List.mem_map.mp hq
    exact lt (show b.1 < b.2.1 from h.rows.pos b hb)
  · obtain ⟨b, hb, rfl⟩ := List.mem_map.mp hq
    have g := h.gap b hb
    refine ⟨fun s hs => ?_, List.pairwise_map.mpr (g.gap.imp fun {s t} z => lt z)⟩
    obtain ⟨s', hs', rfl⟩ := List.mem_map.mp hs
    exact lt (g.pos s' hs')
  · rw [List.getElem?_map] at hp hq
    obtain ⟨b, hb, rfl⟩ := Option.map_eq_some_iff.mp hp
    obtain ⟨c, hc, rfl⟩ := Option.map_eq_some_iff.mp hq
    have k := h.ch i b c hb hc
    unfold bdC at k ⊢
    rw [← Bool.not_eq_true, Bool.and_eq_true, decide_eq_true_eq, decide_eq_true_eq] at k ⊢
    intro ⟨k1, k2⟩
    have k1' : n * b.2.1 = n * c.1 := k1
    have k2' : b.2.2.map (fun s : Span => (n * s.1, n * s.2)) = c.2.2.map (fun s : Span => (n * s.1, n * s.2)) := k2
    exact k ⟨Int.eq_of_mul_eq_mul_left (by omega) k1', scaleS_inj hn _ _ k2'⟩
  · obtain ⟨b, hb, rfl⟩ := List.mem_map.mp hq
    intro e
    exact h.ne b hb (List.map_eq_nil_iff.mp e)
theorem RegIn.scale {X Y : List Int} {R : List Band} (h : RegIn X Y R) {n : Int} (hn : 0 < n) : RegIn (X.map fun z => n * z) (Y.map fun z => n * z) (R.map (mapB (fun z => n * z) (fun z => n * z))) := by
  refine ⟨h.u.scale hn, fun q hq => ?_, fun q hq s hs => ?_⟩
  · obtain ⟨b, hb, rfl⟩ := List.mem_map.mp hq
    exact ⟨List.mem_map_of_mem (h.ys b hb).1, List.mem_map_of_mem (h.ys b hb).2⟩
  · obtain ⟨b, hb, rfl⟩ := List.mem_map.mp hq
    obtain ⟨t, ht, rfl⟩ := List.mem_map.mp hs
    exact ⟨List.mem_map_of_mem (h.xs b hb t ht).1, List.mem_map_of_mem (h.xs b hb t ht).2⟩
/-! ### steps as data, and what they make -/
inductive SOp where
  | add (x y wd ht : Int)
  | sub (x y wd ht : Int)
  | meet (x y wd ht : Int)
  | shift (dx dy : Int)
  | scale (n : Int)
  | turn (h : Int)
  | mir (wd : Int)
def SOp.word : SOp → Str
  | .add .. => "add"
  | .sub .. => "subtract"
  | .meet .. => "meet"
  | .shift .. => "shift"
  | .scale .. => "scale"
  | .turn .. => "turn"
  | .mir .. => "mirror"
def SOp.nums : SOp → List Int
  | .add x y wd ht => [x, y, wd, ht]
  | .sub x y wd ht => [x, y, wd, ht]
  | .meet x y wd ht => [x, y, wd, ht]
  | .shift dx dy => [dx, dy]
  | .scale n => [n]
  | .turn h => [h]
  | .mir wd => [wd]
def SOp.vs (o : SOp) : List V := .str o.word :: o.nums.map V.int
def SOp.ok : SOp → Prop
  | .scale n => 0 < n ∧ n < 100
  | _ => True
def notB (a b : Bool) : Bool := a && !b
/-- what a step makes of a region: no more than one -/
def StepR : SOp → List Band → List Band → Prop
  | .add x y wd ht, R, R' => R' = cmbR or R (rectReg x y wd ht)
  | .sub x y wd ht, R, R' => R' = cmbR (fun a b => a && !b) R (rectReg x y wd ht)
  | .meet x y wd ht, R, R' => R' = cmbR and R (rectReg x y wd ht)
  | .shift dx dy, R, R' => R' = R.map (mapB (fun z => z + dx) (fun z => z + dy))
  | .scale n, R, R' => R' = R.map (mapB (fun z => n * z) (fun z => n * z))
  | .turn h, R, R' => CanU R' ∧ ∀ x y, hasSq R' x y = hasSq R y (h - 1 - x)
  | .mir wd, R, R' => R' = R.map (mirB wd)
theorem StepR.uniq {o : SOp} {R A B : List Band} (ha : StepR o R A) (hb : StepR o R B) : A = B := by
  cases o with
  | turn h => exact one_form ha.1 hb.1 fun x y => (ha.2 x y).trans (hb.2 x y).symm
  | add => exact Eq.trans ha hb.symm
  | sub => exact Eq.trans ha hb.symm
  | meet => exact Eq.trans ha hb.symm
  | shift => exact Eq.trans ha hb.symm
  | scale => exact Eq.trans ha hb.symm
  | mir => exact Eq.trans ha hb.symm
/-- the lists of edges behind a step -/
def SOp.gx : SOp → List Int → List Int → List Int
  | .add x _ wd _, X, _ => X ++ [x, x + wd]
  | .sub x _ wd _, X, _ => X ++ [x, x + wd]
  | .meet x _ wd _, X, _ => X ++ [x, x + wd]
  | .shift dx _, X, _ => X.map fun z => z + dx
  | .scale n, X, _ => X.map fun z => n * z
  | .turn h, _, Y => Y.map fun k => h - k
  | .mir wd, X, _ => X.map fun z => wd - z
def SOp.gy : SOp → List Int → List Int → List Int
  | .add _ y _ ht, _, Y => Y ++ [y, y + ht]
  | .sub _ y _ ht, _, Y => Y ++ [y, y + ht]
  | .meet _ y _ ht, _, Y => Y ++ [y, y + ht]
  | .shift _ dy, _, Y => Y.map fun z => z + dy
  | .scale n, _, Y => Y.map fun z => n * z
  | .turn _, X, _ => X
  | .mir _, _, Y => Y
def small2 (X Y : List Int) : Prop := X.length < 400 ∧ Y.length < 64
/-- the steps' regions have few edges -/
def Fits : List Int → List Int → List SOp → Prop
  | _, _, [] => True
  | X, Y, o :: r => o.ok ∧ (∀ h, o = .turn h → X.length < 64) ∧ ∃ X' Y', (∀ k ∈ o.gx X Y, k ∈ X') ∧ (∀ k ∈ o.gy X Y, k ∈ Y') ∧ small2 X' Y' ∧ Fits X' Y' r
theorem rect_in {x y wd ht : Int} {X Y : List Int} (hx : x ∈ X ∧ x + wd ∈ X) (hy : y ∈ Y ∧ y + ht ∈ Y) : RegIn X Y (rectReg x y wd ht) := by
  unfold rectReg
  split
  · exact RegIn.nil X Y
  · rename_i h
    have h1 : 0 < wd := by omega
    have h2 : 0 < ht := by omega
    refine ⟨⟨⟨fun q hq => ?_, List.pairwise_singleton _ _⟩, fun b hb => ?_, fun i p q hp hq => ?_, fun b hb => ?_⟩, fun b hb => ?_, fun b hb s hs => ?_⟩
    · obtain rfl := List.mem_singleton.mp hq
      show y < y + ht; omega
    · obtain rfl := List.mem_singleton.mp hb
      exact ⟨fun s hs => by obtain rfl := List.mem_singleton.mp hs; show x < x + wd; omega, List.pairwise_singleton _ _⟩
    · cases i with
      | zero => cases hq
      | succ i => cases hp
    · obtain rfl := List.mem_singleton.mp hb
      exact fun z => by cases z
    · obtain rfl := List.mem_singleton.mp hb
      exact hy
    · obtain rfl := List.mem_singleton.mp hb
      obtain rfl := List.mem_singleton.mp hs
      exact hx
theorem StepR.reg {o : SOp} {X Y X' Y' : List Int} {R R' : List Band} (h : StepR o R R') (hR : RegIn X Y R) (ok : o.ok) (ht : ∀ h, o = .turn h → RegIn (Y.map fun k => h - k) X R') (hx : ∀ k ∈ o.gx X Y, k ∈ X') (hy : ∀ k ∈ o.gy X Y, k ∈ Y') : RegIn X' Y' R' := by
  cases o with
  | turn hh => exact (ht hh rfl).mono hx hy
  | shift dx dy => cases h; exact (hR.shift dx dy).mono hx hy
  | scale n => cases h; exact (hR.scale ok.1).mono hx hy
  | mir wd => cases h; exact (hR.mir wd).mono hx hy
  | add x y wd ht' => cases h; exact ((hR.mono (fun k hk => List.mem_append_left _ hk) (fun k hk => List.mem_append_left _ hk)).cmb or (rect_in (X := X ++ [x, x + wd]) (Y := Y ++ [y, y + ht']) ⟨by simp, by simp⟩ ⟨by simp, by simp⟩)).mono hx hy
  | sub x y wd ht' => cases h; exact ((hR.mono (fun k hk => List.mem_append_left _ hk) (fun k hk => List.mem_append_left _ hk)).cmb (fun a b => a && !b) (rect_in (X := X ++ [x, x + wd]) (Y := Y ++ [y, y + ht']) ⟨by simp, by simp⟩ ⟨by simp, by simp⟩)).mono hx hy
  | meet x y wd ht' => cases h; exact ((hR.mono (fun k hk => List.mem_append_left _ hk) (fun k hk => List.mem_append_left _ hk)).cmb and (rect_in (X := X ++ [x, x + wd]) (Y := Y ++ [y, y + ht']) ⟨by simp, by simp⟩ ⟨by simp, by simp⟩)).mono hx hy
/-! ### what is wrong with a region -/
def farP : Int := 1073741824
def farB (b : Band) : Bool := decide (b.1 < -farP ∨ farP < b.2.1) || b.2.2.any fun s => decide (s.1 < -farP ∨ farP < s.2)
def flt (R : List Band) : Str := if R.any farB = true then "large" else if 1000 < (R.flatMap rectsOf).length then "complex" else ""
/-- the steps are done up to the last, none before the last has made a bad region -/
inductive Tr : List SOp → List Band → Prop
  | nil : Tr [] []
  | snoc {ops : List SOp} {o : SOp} {R R' : List Band} (h : Tr ops R) (g : flt R = "") (s : StepR o R R') : Tr (ops ++ [o]) R'
theorem Tr.inv {ops : List SOp} {o : SOp} {R' : List Band} (h : Tr (ops ++ [o]) R') : ∃ R, Tr ops R ∧ flt R = "" ∧ StepR o R R' := by
  generalize e : ops ++ [o] = l at h
  cases h with
  | nil => exact absurd e (by simp)
  | snoc h g s =>
    obtain ⟨rfl, e2⟩ := List.append_inj' e rfl
    cases e2
    exact ⟨_, h, g, s⟩
theorem Tr.none {B : List Band} (h : Tr [] B) : B = [] := by
  generalize e : ([] : List SOp) = l at h
  cases h with
  | nil => rfl
  | snoc => exact absurd e (by simp)
theorem Tr.uniq {ops : List SOp} {A : List Band} (ha : Tr ops A) : ∀ {B}, Tr ops B → A = B := by
  induction ha with
  | nil =>
    intro B hb
    exact hb.none.symm
  | snoc h g s ih =>
    intro B hb
    obtain ⟨R2, h2, g2, s2⟩ := hb.inv
    obtain rfl := ih h2
    exact s.uniq s2
/-- all that stands before the last is good -/
theorem Tr.pre {ops : List SOp} {A : List Band} (h : Tr ops A) {j : Nat} (hj : j < ops.length) : ∃ B, Tr (ops.take j) B ∧ flt B = "" := by
  induction h with
  | nil => exact absurd hj (by simp)
  | @snoc ops o R R' h g s ih =>
    rw [List.length_append] at hj
    have h1 : [o].length = 1 := rfl
    by_cases c : j < ops.length
    · rw [List.take_append_of_le_length (by omega)]
      exact ih c
    · have e : j = ops.length := by omega
      subst e
      rw [List.take_left]
      exact ⟨R, h, g⟩
/-- two ways of running the steps stop at one place -/
theorem Tr.stop {ops : List SOp} {j k : Nat} {A B : List Band} (hj : j ≤ ops.length) (hk : k ≤ ops.length) (ha : Tr (ops.take j) A) (hb : Tr (ops.take k) B) (fa : flt A ≠ "" ∨ j = ops.length) (fb : flt B ≠ "" ∨ k = ops.length) : j = k ∧ A = B := by
  have key : ∀ {j k : Nat} {A B : List Band}, k ≤ ops.length → Tr (ops.take j) A → Tr (ops.take k) B → (flt A ≠ "" ∨ j = ops.length) → ¬ j < k := fun {j k A B} hk ha hb fa c => by
    have e : (ops.take k).take j = ops.take j := by rw [List.take_take, Nat.min_eq_left (by omega)]
    obtain ⟨C, hC, gC⟩ := hb.pre (j := j) (by rw [List.length_take]; omega)
    rw [e] at hC
    obtain rfl := ha.uniq hC
    rcases fa with fa | fa
    · exact fa gC
    · omega
  have e : j = k := by
    have a := key hk ha hb fa
    have b := key hj hb ha fb
    omega
  subst e
  exact ⟨rfl, ha.uniq hb⟩
/-! ### a heap without some places -/
def hide (H : Hp) (a : Addr) : Hp := fun b => if b = a then none else H b
def paneV : List Int → V
  | [] => .non
  | p :: _ => .int p
def ofF (tr kd : Addr) (on : Bool) : List (Str × V) := [("_transfers", .ref tr), ("_kept", .ref kd), ("_is_hovered", .bl on)]
/-- what is not to be looked at -/
structure Hid (p : Prop) : Prop where
  go : p
/-- where words that go on by themselves stop -/
structure Stop (p : Prop) : Prop where
  go : p
  tr : True
theorem stop {p : Prop} (h : p) : Stop p := ⟨h, trivial⟩
/-! ### more words -/
local macro_rules | `(tactic| walk_at "go2") => `(tactic| first
  | walk_at "go1"
  | refine ⟨(⟨by omega, by omega⟩ : CDiv _ _), ?_⟩
  | refine ⟨(Or.inl ⟨by omega, by omega⟩ : CMul _ _), ?_⟩
  | refine ⟨(Or.inr ⟨by omega, by omega⟩ : CMul _ _), ?_⟩
  | refine ⟨(by show (0 : Int) < _; omega), ?_⟩)
local macro_rules | `(tactic| walk_at "gx") => `(tactic| repeat walk_at "go2")
/-! words for fields and heaps -/
local macro_rules | `(tactic| walk_at "lk") => `(tactic| first
  | exact List.lookup_cons_self
  | (refine (lk_ne (by decide +kernel)).trans ?_; walk_at "lk"))
local macro_rules | `(tactic| walk_at "ln") => `(tactic| first
  | exact ln_nil
  | (refine (lk_ne (by decide +kernel)).trans ?_; walk_at "ln"))
local macro_rules | `(tactic| walk_at "pf") => `(tactic| first
  | exact pf_eq
  | exact pf_nil
  | (apply pf_ne; (focus decide +kernel); walk_at "pf"))
local macro_rules | `(tactic| walk_at "h") => `(tactic| ((try simp only [same_iff] at *); grind [L2.upd]))
local macro_rules | `(tactic| walk_at "gf1") => `(tactic| first
  | refine ⟨_, _, _, _, rfl, (by assumption), (by walk_at "lk"), ?_⟩
  | refine ⟨_, _, _, _, rfl, (by assumption), (by exact Nat.le_of_ble_eq_true rfl), (by walk_at "pf"), ?_⟩
  | refine ⟨_, _, _, rfl, (by assumption), (by walk_at "ln"), ?_⟩
  | refine .inl ⟨rfl, _, SqL.of (by assumption), ?_⟩
  | (refine And.intro (.inl ⟨rfl, _, SqL.of (by assumption)⟩) ?_)
  | walk_at "go2")
local macro_rules | `(tactic| walk_at "gf") => `(tactic| repeat walk_at "gf1")
local macro_rules | `(tactic| walk_at "nn") => `(tactic| walk_at "h")
local macro_rules | `(tactic| walk_at "nl") => `(tactic| ((try unfold L2.tNil); (try dsimp only)))
/-! ### a region that reaches too far out, or has too many rectangles -/
theorem far_first {b : Band} (hb : b.1 < b.2.1) (g : Gap b.2.2) {s0 l : Span} {r z : List Span} (h0 : b.2.2 = s0 :: r) (hl : b.2.2 = z ++ [l]) : farB b = true ↔ (if s0.1 < b.1 then s0.1 else b.1) < -farP ∨ farP < (if b.2.1 < l.2 then l.2 else b.2.1) := by
  have lo : ∀ s ∈ b.2.2, s0.1 ≤ s.1 := fun s hs => by
    have g0 := g.gap
    have p0 := g.pos s0 (by rw [h0]; exact List.mem_cons_self)
    rw [h0] at g0 hs
    rcases List.mem_cons.mp hs with rfl | hs
    · exact Int.le_refl _
    · have := (List.pairwise_cons.mp g0).1 s hs; omega
  have hi : ∀ s ∈ b.2.2, s.2 ≤ l.2 := fun s hs => by
    have g0 := g.gap
    have p0 := g.pos l (by rw [hl]; simp)
    rw [hl] at g0 hs
    rcases List.mem_append.mp hs with hs | hs
    · have := (List.pairwise_append.mp g0).2.2 s hs l (by simp); omega
    · obtain rfl := List.mem_singleton.mp hs; exact Int.le_refl _
  have m0 : s0 ∈ b.2.2 := by rw [h0]; exact List.mem_cons_self
  have ml : l ∈ b.2.2 := by rw [hl]; simp
  unfold farB
  rw [Bool.or_eq_true, decide_eq_true_eq, List.any_eq_true]
  constructor
  · rintro (h | ⟨s, hs, h⟩)
    · split <;> split <;> omega
    · rw [decide_eq_true_eq] at h
      have a := lo s hs
      have c := hi s hs
      split <;> split <;> omega
  · intro h
    by_cases c : b.1 < -farP ∨ farP < b.2.1
    · exact .inl c
    · right
      rcases h with h | h
      · exact ⟨s0, m0, decide_eq_true (.inl (by split at h <;> omega))⟩
      · exact ⟨l, ml, decide_eq_true (.inr (by split at h <;> omega))⟩
def sp__is_far (K : PySem.W.Frag) : Sp := fun vs H Q _ => ∃ (v : V) (b : Band), vs = [v] ∧ Dp K H v (bandD b) ∧ b.1 < b.2.1 ∧ Gap b.2.2 ∧ b.2.2 ≠ [] ∧ Q (.bl (farB b)) H
theorem sc__is_far : FnScope ["band", "top", "bottom", "spans"] ["band"] (defScope s__is_far) := ⟨rfl, rfl, rfl, by decide +kernel, rfl, by decide +kernel, by decide +kernel⟩
theorem ok__is_far (T : Txt K mg A) : FnOk P w K mg base CX0 1 A.f_is_far A.d_is_far ["band"] (sp__is_far K) := by
  refine T.F_is_far.ok sc__is_far (fun vs H Q E h => ?_) (fun cdv Ar outer st H vs Q E hr h => ?_)
  · obtain ⟨_, _, rfl, _⟩ := h
    rfl
  · obtain ⟨v, b, rfl, dv, hb, g, ne, q⟩ := h
    replace q := Hid.mk q
    refine ⟨_, (pss_cons (ps_asg (pv 0) (pg_tup rfl (pgs_cons (pg_name (i := 1) sc__is_far.nd rfl (Or.inl rfl)) (pgs_cons (pg_name (i := 2) sc__is_far.nd rfl (Or.inl rfl)) (pgs_cons (pg_name (i := 3) sc__is_far.nd rfl (Or.inl rfl)) pgs_nil)))))
      (pss_one (ps_ret (pe_or (pe_cmpR op_lt (pe_callB (call_min2 rfl) (by rfl) T.min (by decide +kernel) (pa_cons (pv 1) (pa_cons (pe_ix (r := rIxT K) ix_tup (pe_ix (r := rIxT K) ix_tup (pv 3) pe_int (fun _ _ => rfl)) pe_int (fun _ _ => rfl)) pa_nil))) (pe_un un_neg (pe_glob (v := .int (1073741824)) rfl T.gFARTHEST ⟨_, rfl⟩)) (nomark _)) (pe_one (pe_cmpR op_gt (pe_callB (call_max2 rfl) (by rfl) T.max (by decide +kernel) (pa_cons (pv 2) (pa_cons (pe_ix (r := rIxT K) ix_tup (pe_ix (r := rIxT K) ix_tup (pv 3) (pe_un un_neg pe_int) (fun _ _ => rfl)) pe_int (fun _ _ => rfl)) pa_nil))) (pe_glob (v := .int (1073741824)) rfl T.gFARTHEST ⟨_, rfl⟩) (nomark _))))))), ?_⟩
    obtain ⟨ab, p, ss, rfl, qa, qp, qs⟩ := dp_band dv
    obtain ⟨s0, r, h0⟩ : ∃ s0 r, b.2.2 = s0 :: r := by
      cases e : b.2.2 with
      | nil => exact absurd e ne
      | cons s r => exact ⟨s, r, rfl⟩
    obtain ⟨z, l, hl⟩ := SrtO.snoc_of (l := b.2.2) (by rw [h0]; exact Nat.succ_pos _)
    have hlen : ss.length = b.2.2.length := by rw [dpall_len qs, List.length_map]
    have hf := far_first hb g h0 hl
    obtain ⟨sz, vl, hsl⟩ := SrtO.snoc_of (l := ss) (by rw [hlen, h0]; exact Nat.succ_pos _)
    obtain ⟨v0, hv0⟩ : ∃ v0, ss[0]? = some v0 := ⟨_, List.getElem?_eq_getElem (by rw [hlen, h0]; exact Nat.succ_pos _)⟩
    have e0 : ∃ a0, v0 = .ref a0 ∧ SqT K H a0 [.int s0.1, .int s0.2] := by
      obtain ⟨d, hd, dd⟩ := dpall_get qs hv0
      rw [h0] at hd
      cases hd
      exact dp_span dd
    have el : ∃ al, vl = .ref al ∧ SqT K H al [.int l.1, .int l.2] := by
      have hv : ss[sz.length]? = some vl := by rw [hsl, List.getElem?_append_right (Nat.le_refl _), Nat.sub_self]; rfl
      obtain ⟨d, hd, dd⟩ := dpall_get qs hv
      have hzl : sz.length = z.length := by
        have := hlen
        rw [hsl, hl, List.length_append, List.length_append] at this
        exact Nat.add_right_cancel this
      rw [hl, hzl, List.map_append, List.getElem?_append_right (by rw [List.length_map]; exact Nat.le_refl _), List.length_map, Nat.sub_self] at hd
      cases hd
      exact dp_span dd
    obtain ⟨a0, rfl, q0⟩ := e0
    obtain ⟨al, rfl, ql⟩ := el
    clear dv qs
    walk_at "gf"
    refine ⟨p, ss, 0, .ref a0, rfl, rfl, qp, atI_nat (j := 0) hv0, ?_⟩
    refine ⟨a0, _, 0, _, rfl, rfl, q0, atI_nat (j := 0) rfl, ?_⟩
    walk_at "gf"
    have q' := q.go
    refine iteP (fun c => ?_) (fun c => ?_)
    · have e : farB b = true := hf.mpr (.inl c)
      rw [e] at q'
      exact q'
    · walk_at "gf"
      refine ⟨p, ss, -1, .ref al, rfl, rfl, qp, by rw [hsl]; exact atI_last _ _, ?_⟩
      refine ⟨al, _, 1, _, rfl, rfl, ql, atI_nat (j := 1) rfl, ?_⟩
      walk_at "gf"
      have e : farB b = decide (1073741824 < if b.2.1 < l.2 then l.2 else b.2.1) := by
        rw [Bool.eq_iff_iff, hf, decide_eq_true_eq]
        exact ⟨fun h => h.resolve_left c, .inr⟩
      rw [e] at q'
      exact q'
theorem rects_few {R : List Band} (oR : RegOk R) : (R.flatMap rectsOf).length < 90000 := by
  have h : ∀ l : List Band, (∀ b ∈ l, b.2.2.length < 200) → (l.flatMap rectsOf).length ≤ 200 * l.length := fun l => by
    induction l with
    | nil => intro _; exact Nat.le_refl _
    | cons b l ih =>
      intro hl
      have i1 := ih fun q hq => hl q (List.mem_cons_of_mem _ hq)
      have i2 := hl b List.mem_cons_self
      have i3 : (rectsOf b).length = b.2.2.length := by unfold rectsOf; rw [List.length_map]
      rw [List.flatMap_cons, List.length_append, List.length_cons, i3]
      omega
  have := h R oR.fews
  have := oR.few
  omega
def sp__check (A : Adr) (K : PySem.W.Frag) : Sp := fun vs H Q E => ∃ (v : V) (R : List Band), vs = [v] ∧ Dp K H v (regD R) ∧ RegOk R ∧ (∀ b ∈ R, b.2.2 ≠ []) ∧ (flt R = "large" → ∀ H', Same H H' → E (.ref A.CRegionTooLarge) none H') ∧ (flt R = "complex" → ∀ H', Same H H' → E (.ref A.CRegionTooComplex) none H') ∧ (flt R = "" → ∀ H', Same H H' → Q .non H')
theorem sc__check : FnScope ["region", "row"] ["region"] (defScope s__check) := ⟨rfl, rfl, rfl, by decide +kernel, rfl, by decide +kernel, by decide +kernel⟩
theorem ok__check (T : Txt K mg A) : FnOk P w K mg base (L2.CX P w) 2 A.f_check A.d_check ["region"] (sp__check A K) := by
  refine T.F_check.okX sc__check (fun vs H Q E h => ?_) (fun cdv Ar outer st H vs Q E hr h => ?_)
  · obtain ⟨_, _, rfl, _⟩ := h
    rfl
  · obtain ⟨v, R, rfl, dv, oR, ne, q1, q2, q3⟩ := h
    replace q1 := Hid.mk q1
    replace q2 := Hid.mk q2
    replace q3 := Hid.mk q3
    refine ⟨_, (pss_cons (ps_if (pt_val (pe_callB (cr_any rfl) (by rfl) T.any (by decide +kernel) (pa_cons (pe_lc (own := [("row", 1)]) (g := (gName 1)) (tt := tYes) rfl sc__check.nd (pi_list (pv 0)) (blkOk_by (own := [("row", 1)]) (N := ["region", "row"]) (sc := defScope s__check) (by decide +kernel)) (fun _ _ _ _ _ => (pg_name (i := 1) sc__check.nd rfl (Or.inl rfl))) (fun _ _ _ _ _ => pts_nil) (fun _ _ _ _ _ => by exact (pe_call (ok__is_far T) (hr.mono (by decide)) rfl T.g_is_far T.k_is_far T.b_is_far .nil pass0 (pa_cons (pv 1) pa_nil)))) pa_nil)))
      (pss_one (ps_raise rfl (takes_of rfl rfl rfl rfl) (pmk_own PySem.F.excBase_ValueError T.xRegionTooLarge T.gRegionTooLarge T.kRegionTooLarge (raises_own T.bxRegionTooLarge T.txRegionTooLarge) rfl)))
      pss_nil)
      (pss_one (ps_if (pt_cmpR op_gt (pe_callB call_len_seq (by rfl) T.len PySem.boot_len (pa_cons (pe_call (ok_rectangles T) (hr.mono (by decide)) rfl T.grectangles T.krectangles T.brectangles .nil pass0 (pa_cons (pv 0) pa_nil)) pa_nil)) (pe_glob (v := .int (1000)) rfl T.gMOST_RECTANGLES ⟨_, rfl⟩) (nomark _))
      (pss_one (ps_raise rfl (takes_of rfl rfl rfl rfl) (pmk_own PySem.F.excBase_ValueError T.xRegionTooComplex T.gRegionTooComplex T.kRegionTooComplex (raises_own T.bxRegionTooComplex T.txRegionTooComplex) rfl)))
      pss_nil))), ?_⟩
    obtain ⟨pa, xa, rfl, hpa, hxa⟩ := dp_list dv
    have lx : xa.length = R.length := by rw [dpall_len hxa, List.length_map]
    have fw := oR.few
    walk_at "gf"
    refine ⟨⟨_, hpa⟩, fun D hD => ?_⟩
    refine lc_dp (walk_list (K := K) (a := pa) (xs := xa)) (K := K) (V0 := H) (H0 := H) (fun i => (R[i]?).map fun b => PyData.bool (farB b)) _ rfl (Same.refl _) hD (by omega) (fun H' s => s.seq hpa) (fun i x H H' y => y.1) ?_ ?_
    · rintro j v V3 H3 hj x3 ⟨_, hv⟩ Qy Qn hy _
      obtain ⟨d, hd, dv⟩ := dpall_get hxa hv
      rw [List.getElem?_map] at hd
      obtain ⟨b, hb, rfl⟩ := Option.map_eq_some_iff.mp hd
      have bm := List.mem_of_getElem? hb
      refine ⟨rfl, _, rfl, v, b, rfl, dv.to x3.hh, oR.rows.pos b bm, ⟨(oR.sps b bm).pos, oR.gaps b bm⟩, ne b bm, ?_⟩
      exact hy (.bool (farB b)) _ _ _ (by rw [hb]; rfl) (Ext.refl x3.vh) (.bl _)
    · rintro U2 H2 ys x2 hz dz lz
      rw [lx, fm_map] at dz
      rw [show (R.map fun b => PyData.bool (farB b)) = (R.map farB).map PyData.bool from by rw [List.map_map]; rfl] at dz
      have db := dp_bools (Dp.lst (SqL.of hz) dz)
      clear lz dz hz
      have dv2 := dv.to x2.hh
      have s2 := x2.hh
      walk_at "gf"
      refine ⟨D, _, rfl, x2.vh.seq db, ?_⟩
      rw [List.any_map, show (id ∘ farB : Band → Bool) = farB from rfl]
      walk_at "gf"
      refine if_b (fun hb => ?_) (fun hb => ?_)
      · exact q1.go (by unfold flt; rw [if_pos hb]) H2 s2
      · walk_at "gf"
        refine ⟨.ref pa, R, H2, rfl, Same.refl _, dv2, ?_, by omega, fun v' U3 H3 x3 d3 => ?_⟩
        · exact rects_few oR
        · obtain ⟨pr, xr, rfl, hpr, hxr⟩ := dp_list d3
          have s3 := s2.trans x3.hh
          have hl : xr.length = (R.flatMap rectsOf).length := dpall_len hxr
          walk_at "gf"
          refine ⟨pr, xr, rfl, .inl (x3.vh.seq hpr), ?_⟩
          walk_at "gf"
          rw [hl]
          refine iteP (fun c => ?_) (fun c => ?_)
          · exact q2.go (by unfold flt; rw [if_neg (by rw [hb]; simp), if_pos (by omega)]) H3 s3
          · exact q3.go (by unfold flt; rw [if_neg (by rw [hb]; simp), if_neg (by omega)]) H3 s3
/-! ### one step -/
def sp__after_step (K : PySem.W.Frag) : Sp := fun vs H Q _ => ∃ (v : V) (st : Addr) (o : SOp) (R : List Band) (X Y X' Y' : List Int), vs = [v, .ref st] ∧ Dp K H v (regD R) ∧ SqT K H st o.vs ∧ RegIn X Y R ∧ small2 X Y ∧ o.ok ∧ (∀ h, o = .turn h → X.length < 64) ∧ (∀ k ∈ o.gx X Y, k ∈ X') ∧ (∀ k ∈ o.gy X Y, k ∈ Y') ∧ small2 X' Y' ∧
  ∀ v' R' H', Same H H' → Dp K H' v' (regD R') → StepR o R R' → RegIn X' Y' R' → Q v' H'
theorem after_rect {op : Bool → Bool → Bool} {K : PySem.W.Frag} {H H1 : Hp} {v v1 : V} {R R1 : List Band} {X Y X' Y' : List Int} {Q : VK} (hR : RegIn X Y R) (hx : ∀ k ∈ X, k ∈ X') (hy : ∀ k ∈ Y, k ∈ Y') (s2 : small2 X' Y') (h1 : RegIn X' Y' R1) (dv : Dp K H v (regD R)) (d1 : Dp K H1 v1 (regD R1)) (s : Same H H1)
    (q : ∀ v' H', Same H1 H' → Dp K H' v' (regD (cmbR op R R1)) → Q v' H') : sp_op2 op K [v, v1] H1 Q E0 := by
  have h0 := hR.mono hx hy
  exact ⟨R, R1, v, v1, H1, rfl, Same.refl _, dv.to s, d1, h0.ok s2.1 s2.2, h1.ok s2.1 s2.2, h0.pair h1 s2.1 s2.2, fun v' U' H' x d => q v' H' x.hh (d.to x.vh)⟩
theorem sc__after_step : FnScope ["region", "step", "word", "numbers"] ["region", "step"] (defScope s__after_step) := ⟨rfl, rfl, rfl, by decide +kernel, rfl, by decide +kernel, by decide +kernel⟩
theorem ok__after_step (T : Txt K mg A) : FnOk P w K mg base CX0 6 A.f_after_step A.d_after_step ["region", "step"] (sp__after_step K) := by
  refine T.F_after_step.ok sc__after_step (fun vs H Q E h => ?_) (fun cdv Ar outer st H vs Q E hr h => ?_)
  · obtain ⟨_, _, _, _, _, _, _, _, rfl, _⟩ := h
    rfl
  · obtain ⟨v, sa, o, R, X, Y, X', Y', rfl, dv, hs, hR, sm, ok, ht, hx, hy, sm', q⟩ := h
    replace q := Hid.mk q
    refine ⟨_, (pss_cons (ps_asg (pv 1) (pg_unlST (n := 1) rfl (pgs_cons (pg_name (i := 2) sc__after_step.nd rfl (Or.inl rfl)) (pgs_star (pg_name (i := 3) sc__after_step.nd rfl (Or.inl rfl)) pgs_nil))))
      (pss_cons (ps_if (pt_cmpR op_eq (pv 2) pe_str (nomark _))
      (pss_one (ps_ret (pe_call (ok_united T) (hr.mono (by decide)) rfl T.gunited T.kunited T.bunited .nil pass0 (pa_cons (pv 0) (pa_cons (StX.pe_callS1 ((ok_rectangle_region T).raw T.brectangle_region .nil) (hr.mono (by decide)) T.krectangle_region rfl T.grectangle_region pass0 (pv 3)) pa_nil)))))
      pss_nil)
      (pss_cons (ps_if (pt_cmpR op_eq (pv 2) pe_str (nomark _))
      (pss_one (ps_ret (pe_call (ok_without T) (hr.mono (by decide)) rfl T.gwithout T.kwithout T.bwithout .nil pass0 (pa_cons (pv 0) (pa_cons (StX.pe_callS1 ((ok_rectangle_region T).raw T.brectangle_region .nil) (hr.mono (by decide)) T.krectangle_region rfl T.grectangle_region pass0 (pv 3)) pa_nil)))))
      pss_nil)
      (pss_cons (ps_if (pt_cmpR op_eq (pv 2) pe_str (nomark _))
      (pss_one (ps_ret (pe_call (ok_common T) (hr.mono (by decide)) rfl T.gcommon T.kcommon T.bcommon .nil pass0 (pa_cons (pv 0) (pa_cons (StX.pe_callS1 ((ok_rectangle_region T).raw T.brectangle_region .nil) (hr.mono (by decide)) T.krectangle_region rfl T.grectangle_region pass0 (pv 3)) pa_nil)))))
      pss_nil)
      (pss_cons (ps_if (pt_cmpR op_eq (pv 2) pe_str (nomark _))
      (pss_one (ps_ret (StX.pe_callS2 ((ok_shifted T).raw T.bshifted .nil) (hr.mono (by decide)) T.kshifted rfl T.gshifted pass0 (pa_cons (pv 0) (StX.pa_star (pv 3) pa_nil)))))
      pss_nil)
      (pss_cons (ps_if (pt_cmpR op_eq (pv 2) pe_str (nomark _))
      (pss_one (ps_ret (StX.pe_callS2 ((ok_scaled T).raw T.bscaled .nil) (hr.mono (by decide)) T.kscaled rfl T.gscaled pass0 (pa_cons (pv 0) (StX.pa_star (pv 3) pa_nil)))))
      pss_nil)
      (pss_cons (ps_if (pt_cmpR op_eq (pv 2) pe_str (nomark _))
      (pss_one (ps_ret (StX.pe_callS2 ((ok_turned T).raw T.bturned .nil) (hr.mono (by decide)) T.kturned rfl T.gturned pass0 (pa_cons (pv 0) (StX.pa_star (pv 3) pa_nil)))))
      pss_nil)
      (pss_one (ps_ret (StX.pe_callS2 ((ok_mirrored T).raw T.bmirrored .nil) (hr.mono (by decide)) T.kmirrored rfl T.gmirrored pass0 (pa_cons (pv 0) (StX.pa_star (pv 3) pa_nil)))))))))))), ?_⟩
    walk_at "gf"
    refine ⟨sa, o.vs, rfl, hs, by unfold SOp.vs; simp, by cases o <;> (unfold SOp.vs SOp.nums; simp), fun D hD => ?_⟩
    cases o with
    | add x y wd ht' =>
      walk_at "gf"
      refine ⟨x, y, wd, ht', _, rfl, Same.refl _, fun v1 U1 H1 x1 d1 => ?_⟩
      have s1 : Same H H1 := (same_upd hD).trans x1.hh
      have d1' := d1.to x1.vh
      have rr : RegIn X' Y' (rectReg x y wd ht') := rect_in ⟨hx _ (by unfold SOp.gx; simp), hx _ (by unfold SOp.gx; simp)⟩ ⟨hy _ (by unfold SOp.gy; simp), hy _ (by unfold SOp.gy; simp)⟩
      have fin := after_rect (op := or) (Q := Q) hR (fun k hk => hx k (List.mem_append_left _ hk)) (fun k hk => hy k (List.mem_append_left _ hk)) sm' rr dv d1' s1 fun v' H' s' d' => q.go v' _ H' (s1.trans s') d' rfl (StepR.reg (o := .add x y wd ht') rfl hR trivial (fun _ z => nomatch z) hx hy)
      clear q x1 d1 d1' hs hx hy rr
      walk_at "gf"
      exact fin
    | sub x y wd ht' =>
      walk_at "gf"
      refine ⟨x, y, wd, ht', _, rfl, Same.refl _, fun v1 U1 H1 x1 d1 => ?_⟩
      have s1 : Same H H1 := (same_upd hD).trans x1.hh
      have d1' := d1.to x1.vh
      have rr : RegIn X' Y' (rectReg x y wd ht') := rect_in ⟨hx _ (by unfold SOp.gx; simp), hx _ (by unfold SOp.gx; simp)⟩ ⟨hy _ (by unfold SOp.gy; simp), hy _ (by unfold SOp.gy; simp)⟩
      have fin := after_rect (op := (fun a b => a && !b)) (Q := Q) hR (fun k hk => hx k (List.mem_append_left _ hk)) (fun k hk => hy k (List.mem_append_left _ hk)) sm' rr dv d1' s1 fun v' H' s' d' => q.go v' _ H' (s1.trans s') d' rfl (StepR.reg (o := .sub x y wd ht') rfl hR trivial (fun _ z => nomatch z) hx hy)
      clear q x1 d1 d1' hs hx hy rr
      walk_at "gf"
      exact fin
    | meet x y wd ht' =>
      walk_at "gf"
      refine ⟨x, y, wd, ht', _, rfl, Same.refl _, fun v1 U1 H1 x1 d1 => ?_⟩
      have s1 : Same H H1 := (same_upd hD).trans x1.hh
      have d1' := d1.to x1.vh
      have rr : RegIn X' Y' (rectReg x y wd ht') := rect_in ⟨hx _ (by unfold SOp.gx; simp), hx _ (by unfold SOp.gx; simp)⟩ ⟨hy _ (by unfold SOp.gy; simp), hy _ (by unfold SOp.gy; simp)⟩
      have fin := after_rect (op := and) (Q := Q) hR (fun k hk => hx k (List.mem_append_left _ hk)) (fun k hk => hy k (List.mem_append_left _ hk)) sm' rr dv d1' s1 fun v' H' s' d' => q.go v' _ H' (s1.trans s') d' rfl (StepR.reg (o := .meet x y wd ht') rfl hR trivial (fun _ z => nomatch z) hx hy)
      clear q x1 d1 d1' hs hx hy rr
      walk_at "gf"
      exact fin
    | shift dx dy =>
      walk_at "gf"
      refine ⟨dx, dy, v, R, rfl, dv.to (same_upd hD), hR.ok sm.1 sm.2, fun v' H' s' d' => ?_⟩
      exact q.go v' _ H' ((same_upd hD).trans s') d' rfl (StepR.reg (o := .shift dx dy) rfl hR trivial (fun _ z => nomatch z) hx hy)
    | scale n =>
      walk_at "gf"
      refine ⟨n, ok, v, R, rfl, dv.to (same_upd hD), hR.ok sm.1 sm.2, fun v' H' s' d' => ?_⟩
      exact q.go v' _ H' ((same_upd hD).trans s') d' rfl (StepR.reg (o := .scale n) rfl hR ok (fun _ z => nomatch z) hx hy)
    | turn hh =>
      walk_at "gf"
      refine ⟨v, hh, R, X, Y, rfl, dv.to (same_upd hD), hR, ht hh rfl, sm.2, fun v' R' H' s' d' r' e' => ?_⟩
      exact q.go v' _ H' ((same_upd hD).trans s') d' ⟨r'.u, e'⟩ (StepR.reg (o := .turn hh) (R := R) ⟨r'.u, e'⟩ hR trivial (fun _ z => by cases z; exact r') hx hy)
    | mir wd =>
      walk_at "gf"
      refine ⟨v, R, wd, rfl, dv.to (same_upd hD), hR.ok sm.1 sm.2, fun v' H' s' d' => ?_⟩
      exact q.go v' _ H' ((same_upd hD).trans s') d' rfl (StepR.reg (o := .mir wd) rfl hR trivial (fun _ z => nomatch z) hx hy)
/-! ### all the steps -/
structure StepsAt (K : PySem.W.Frag) (H : Hp) (ads : List Addr) (ops : List SOp) : Prop where
  len : ads.length = ops.length
  at_ : ∀ (i : Nat) (a : Addr) (o : SOp), ads[i]? = some a → ops[i]? = some o → SqT K H a o.vs
theorem StepsAt.to {K : PySem.W.Frag} {H H' : Hp} {ads : List Addr} {ops : List SOp} (h : StepsAt K H ads ops) (s : Same H H') : StepsAt K H' ads ops := ⟨h.len, fun i a o h1 h2 => s.sqt (h.at_ i a o h1 h2)⟩
theorem flt_nil : flt [] = "" := rfl
theorem take_last {ops : List SOp} {i : Nat} {o : SOp} (h : ops[i]? = some o) : ops.take (i + 1) = ops.take i ++ [o] := by
  rw [List.take_succ, h]; rfl
theorem drop_head {ops : List SOp} {i : Nat} {o : SOp} (h : ops[i]? = some o) : ops.drop i = o :: ops.drop (i + 1) := by
  obtain ⟨h1, h2⟩ := List.getElem?_eq_some_iff.mp h
  rw [← h2]
  exact (List.getElem_cons_drop h1).symm
def sp_region_of (A : Adr) (K : PySem.W.Frag) : Sp := fun vs H Q E => ∃ (a : Addr) (ads : List Addr) (ops : List SOp), vs = [.ref a] ∧ SqL K H a (ads.map V.ref) ∧ StepsAt K H ads ops ∧ ops.length < 1000 ∧ Fits [] [] ops ∧
  (∀ j R, j ≤ ops.length → Tr (ops.take j) R → flt R = "large" → ∀ H', Same H H' → E (.ref A.CRegionTooLarge) none H') ∧ (∀ j R, j ≤ ops.length → Tr (ops.take j) R → flt R = "complex" → ∀ H', Same H H' → E (.ref A.CRegionTooComplex) none H') ∧
  (∀ R v H', Same H H' → Tr ops R → flt R = "" → Dp K H' v (regD R) → Q v H')
theorem sc_region_of : FnScope ["steps", "region", "step"] ["steps"] (defScope s_region_of) := ⟨rfl, rfl, rfl, by decide +kernel, rfl, by decide +kernel, by decide +kernel⟩
theorem ok_region_of (T : Txt K mg A) : FnOk P w K mg base (L2.CX P w) 7 A.fregion_of A.dregion_of ["steps"] (sp_region_of A K) := by
  refine T.Fregion_of.okX sc_region_of (fun vs H Q E h => ?_) (fun cdv Ar outer st H vs Q E hr h => ?_)
  · obtain ⟨_, _, _, rfl, _⟩ := h
    rfl
  · obtain ⟨a, ads, ops, rfl, hs, hS, hn, hF, q1, q2, q3⟩ := h
    replace q1 := Hid.mk q1
    replace q2 := Hid.mk q2
    replace q3 := Hid.mk q3
    refine ⟨_, (pss_cons (ps_set (i := 1) sc_region_of.nd rfl (Or.inl rfl) (pe_lst pa_nil))
      (pss_cons (ps_for (passes_of rfl) rfl (pi_list (pv 0)) (pg_name (i := 2) sc_region_of.nd rfl (Or.inl rfl))
      (pss_cons (ps_set (i := 1) sc_region_of.nd rfl (Or.inl rfl) (pe_call (ok__after_step T) (hr.mono (by decide)) rfl T.g_after_step T.k_after_step T.b_after_step .nil pass0 (pa_cons (pv 1) (pa_cons (pv 2) pa_nil))))
      (pss_one (ps_expr (pe_call (ok__check T) (hr.mono (by decide)) rfl T.g_check T.k_check T.b_check .nil (passes_call (takes_of rfl rfl rfl rfl) (fun _ _ _ _ h => h)) (pa_cons (pv 1) pa_nil))))))
      (pss_one (ps_ret (pv 1))))), ?_⟩
    have hlen := hS.len
    walk_at "gf"
    rename_i p0 hp0
    refine ⟨⟨_, (same_upd hp0).seq hs⟩, for_list (K := K) (a := a) (xs := ads.map V.ref) (fun i σ H' => ∃ (v : V) (R : List Band) (X Y : List Int) (v2 : Option V), σ = [some (.ref a), some v, v2] ∧ Same H H' ∧ Dp K H' v (regD R) ∧ Tr (ops.take i) R ∧ flt R = "" ∧ RegIn X Y R ∧ small2 X Y ∧ Fits X Y (ops.drop i))
      ⟨.ref p0, [], [], [], _, rfl, same_upd hp0, Dp.lst (SqL.of upd_same) .nil, .nil, flt_nil, RegIn.nil [] [], ⟨by decide, by decide⟩, hF⟩ (fun i σ H' _ hh => ?_) ?_ ?_⟩
    · obtain ⟨_, _, _, _, _, _, s, _⟩ := hh
      exact s.seq hs
    · rintro i x σ H1 hx ⟨v, R, X, Y, v2, rfl, s1, dv, tr, g, hR, sm, hf⟩
      rw [List.getElem?_map] at hx
      obtain ⟨sa, hsa, rfl⟩ := Option.map_eq_some_iff.mp hx
      have hio : i < ops.length := by have := (List.getElem?_eq_some_iff.mp hsa).1; omega
      have ho := List.getElem?_eq_getElem hio
      generalize ops[i] = o at ho
      have hso := s1.sqt (hS.at_ i sa o hsa ho)
      rw [drop_head ho] at hf
      obtain ⟨ok, ht, X', Y', hx', hy', sm', hf'⟩ := hf
      walk_at "gf"
      refine ⟨v, sa, o, R, X, Y, X', Y', rfl, dv, hso, hR, sm, ok, ht, hx', hy', sm', fun v' R' H2 s2 d2 st2 hR2 => ?_⟩
      have tr2 : Tr (ops.take (i + 1)) R' := by rw [take_last ho]; exact .snoc tr g st2
      have s12 := s1.trans s2
      clear dv hso tr st2
      walk_at "gf"
      refine ⟨v', R', rfl, d2, hR2.ok sm'.1 sm'.2, hR2.u.ne, fun c H3 s3 => q1.go (i + 1) R' hio tr2 c H3 (s12.trans s3), fun c H3 s3 => q2.go (i + 1) R' hio tr2 c H3 (s12.trans s3), fun c H3 s3 => ?_⟩
      exact ⟨v', R', X', Y', _, rfl, s12.trans s3, d2.to s3, tr2, c, hR2, sm', hf'⟩
    · rintro σ H1 ⟨v, R, X, Y, v2, rfl, s1, dv, tr, g, hR, sm, hf⟩
      rw [List.length_map, hlen, List.take_length] at tr
      walk_at "gf"
      exact q3.go R v H1 s1 tr g dv
/-! ### what the law draws: a step -/
def SOp.isTurn : SOp → Bool
  | .turn _ => true
  | _ => false
def sp__law_step : Sp := fun vs H Q _ => ∃ (row : Int), vs = [.int row] ∧ 0 ≤ row ∧ ∀ (p : Addr) (o : SOp), H p = none → o.ok → Q (.ref p) (upd H p (.tup o.vs))
theorem sc__law_step : FnScope ["row", "kind", "a", "b", "c", "d"] ["row"] (defScope s__law_step) := ⟨rfl, rfl, rfl, by decide +kernel, rfl, by decide +kernel, by decide +kernel⟩
theorem ok__law_step (T : Txt K mg A) : FnOk P w K mg base CX0 1 A.f_law_step A.d_law_step ["row"] sp__law_step := by
  refine T.F_law_step.ok sc__law_step (fun vs H Q E h => ?_) (fun cdv Ar outer st H vs Q E hr h => ?_)
  · obtain ⟨_, rfl, _⟩ := h
    rfl
  · obtain ⟨row, rfl, hr0, q⟩ := h
    replace q := Hid.mk q
    refine ⟨_, (pss_cons (ps_set (i := 1) sc__law_step.nd rfl (Or.inl rfl) (pe_op op_mod (pe_callTy call_int1 (by rfl) T.int (by decide +kernel) (pa_cons (pv 0) pa_nil)) pe_int))
      (pss_cons (ps_set (i := 2) sc__law_step.nd rfl (Or.inl rfl) (pe_op op_sub (pe_op op_mod (pe_callTy call_int1 (by rfl) T.int (by decide +kernel) (pa_cons (pe_op op_fdiv (pv 0) pe_int) pa_nil)) pe_int) pe_int))
      (pss_cons (ps_set (i := 3) sc__law_step.nd rfl (Or.inl rfl) (pe_op op_sub (pe_op op_mod (pe_callTy call_int1 (by rfl) T.int (by decide +kernel) (pa_cons (pe_op op_fdiv (pv 0) pe_int) pa_nil)) pe_int) pe_int))
      (pss_cons (ps_set (i := 4) sc__law_step.nd rfl (Or.inl rfl) (pe_op op_mod (pe_callTy call_int1 (by rfl) T.int (by decide +kernel) (pa_cons (pe_op op_fdiv (pv 0) pe_int) pa_nil)) pe_int))
      (pss_cons (ps_set (i := 5) sc__law_step.nd rfl (Or.inl rfl) (pe_op op_mod (pe_callTy call_int1 (by rfl) T.int (by decide +kernel) (pa_cons (pe_op op_fdiv (pv 0) pe_int) pa_nil)) pe_int))
      (pss_cons (ps_if (pt_cmpR op_lt (pv 1) pe_int (nomark _))
      (pss_one (ps_ret (pe_tup (pa_cons pe_str (pa_cons (pv 2) (pa_cons (pv 3) (pa_cons (pv 4) (pa_cons (pv 5) pa_nil))))))))
      pss_nil)
      (pss_cons (ps_if (pt_cmpR op_lt (pv 1) pe_int (nomark _))
      (pss_one (ps_ret (pe_tup (pa_cons pe_str (pa_cons (pv 2) (pa_cons (pv 3) (pa_cons (pv 4) (pa_cons (pv 5) pa_nil))))))))
      pss_nil)
      (pss_cons (ps_if (pt_cmpR op_eq (pv 1) pe_int (nomark _))
      (pss_one (ps_ret (pe_tup (pa_cons pe_str (pa_cons (pv 2) (pa_cons (pv 3) pa_nil))))))
      pss_nil)
      (pss_cons (ps_if (pt_cmpR op_eq (pv 1) pe_int (nomark _))
      (pss_one (ps_ret (pe_tup (pa_cons pe_str (pa_cons (pe_op op_add (pe_op op_mod (pe_callTy call_int1 (by rfl) T.int (by decide +kernel) (pa_cons (pv 4) pa_nil)) pe_int) pe_int) pa_nil)))))
      pss_nil)
      (pss_cons (ps_if (pt_cmpR op_eq (pv 1) pe_int (nomark _))
      (pss_one (ps_ret (pe_tup (pa_cons pe_str (pa_cons (pv 2) pa_nil)))))
      pss_nil)
      (pss_cons (ps_if (pt_cmpR op_eq (pv 5) pe_int (nomark _))
      (pss_one (ps_ret (pe_tup (pa_cons pe_str (pa_cons (pe_op op_sub (pv 2) pe_int) (pa_cons (pe_op op_sub (pv 3) pe_int) (pa_cons (pe_op op_add (pv 4) pe_int) (pa_cons (pe_op op_add (pv 5) pe_int) pa_nil))))))))
      pss_nil)
      (pss_one (ps_ret (pe_tup (pa_cons pe_str (pa_cons (pv 3) pa_nil)))))))))))))))), ?_⟩
    walk_at "gf"
    refine iteP (fun c => ?_) (fun c => ?_)
    · walk_at "gf"
      rename_i p hp
      exact q.go p (.add _ _ _ _) hp trivial
    walk_at "gf"
    refine iteP (fun c => ?_) (fun c => ?_)
    · walk_at "gf"
      rename_i p hp
      exact q.go p (.sub _ _ _ _) hp trivial
    walk_at "gf"
    refine iteEq (fun c => ?_) (fun c => ?_)
    · walk_at "gf"
      rename_i p hp
      exact q.go p (.shift _ _) hp trivial
    walk_at "gf"
    refine iteEq (fun c => ?_) (fun c => ?_)
    · walk_at "gf"
      rename_i p hp
      exact q.go p (.scale (row / 2025 % 12 % 3 + 1)) hp ⟨by omega, by omega⟩
    walk_at "gf"
    refine iteEq (fun c => ?_) (fun c => ?_)
    · walk_at "gf"
      rename_i p hp
      exact q.go p (.turn _) hp trivial
    walk_at "gf"
    refine iteEq (fun c => ?_) (fun c => ?_)
    · walk_at "gf"
      rename_i p hp
      exact q.go p (.meet _ _ _ _) hp trivial
    walk_at "gf"
    rename_i p hp
    exact q.go p (.mir _) hp trivial
def SOp.isRect : SOp → Bool
  | .add .. => true
  | .sub .. => true
  | .meet .. => true
  | _ => false
def rc (ops : List SOp) : Nat := (ops.filter SOp.isRect).length
theorem StepsAt.snoc {K : PySem.W.Frag} {U : Hp} {ads : List Addr} {ops : List SOp} (h : StepsAt K U ads ops) {q : Addr} (hq : U q = none) (o : SOp) : StepsAt K (upd U q (.tup o.vs)) (ads ++ [q]) (ops ++ [o]) := by
  have hl := h.len
  refine ⟨by rw [List.length_append, List.length_append, hl]; rfl, fun i a o' h1 h2 => ?_⟩
  by_cases c : i < ads.length
  · rw [List.getElem?_append_left c] at h1
    rw [List.getElem?_append_left (by omega)] at h2
    exact (same_upd hq).sqt (h.at_ i a o' h1 h2)
  · have e : i = ads.length := by
      have := (List.getElem?_eq_some_iff.mp h1).1
      rw [List.length_append] at this
      have h3 : [q].length = 1 := rfl
      omega
    subst e
    rw [List.getElem?_append_right (Nat.le_refl _), Nat.sub_self] at h1
    rw [hl, List.getElem?_append_right (Nat.le_refl _), Nat.sub_self] at h2
    cases h1
    cases h2
    exact SqT.of upd_same
theorem StepsAt.nil {K : PySem.W.Frag} {U : Hp} : StepsAt K U [] [] := ⟨rfl, fun i a o h1 => by cases h1⟩
structure Lay (K : PySem.W.Frag) (H U : Hp) (ads : List Addr) (ops : List SOp) : Prop where
  s : Same H U
  at_ : StepsAt K U ads ops
theorem Lay.nil {K : PySem.W.Frag} {H : Hp} : Lay K H H [] [] := ⟨Same.refl _, StepsAt.nil⟩
theorem Lay.snoc {K : PySem.W.Frag} {H U : Hp} {ads : List Addr} {ops : List SOp} (h : Lay K H U ads ops) {q : Addr} (hq : U q = none) (o : SOp) : Lay K H (upd U q (.tup o.vs)) (ads ++ [q]) (ops ++ [o]) := ⟨h.s.trans (same_upd hq), h.at_.snoc hq o⟩
/-- what the law lays ahead, far out -/
def sp__law_far (K : PySem.W.Frag) : Sp := fun vs H Q _ => ∃ (row : Int), vs = [.int row] ∧ 0 ≤ row ∧ ∀ (p : Addr) (ads : List Addr) (ops : List SOp) (U H' : Hp), Same H U → Same U H' → U p = none → H' p = some (.lst (ads.map V.ref)) → StepsAt K U ads ops → ops.length ≤ 5 → rc ops ≤ 1 → (∀ o ∈ ops, o.ok) → Q (.ref p) H'
theorem sc__law_far : FnScope ["row", "end"] ["row"] (defScope s__law_far) := ⟨rfl, rfl, rfl, by decide +kernel, rfl, by decide +kernel, by decide +kernel⟩
theorem ok__law_far (T : Txt K mg A) : FnOk P w K mg base CX0 1 A.f_law_far A.d_law_far ["row"] (sp__law_far K) := by
  refine T.F_law_far.ok sc__law_far (fun vs H Q E h => ?_) (fun cdv Ar outer st H vs Q E hr h => ?_)
  · obtain ⟨_, rfl, _⟩ := h
    rfl
  · obtain ⟨row, rfl, hr0, q⟩ := h
    replace q := Hid.mk q
    refine ⟨_, (pss_cons (ps_set (i := 1) sc__law_far.nd rfl (Or.inl rfl) (pe_op op_sub (pe_op op_mod (pe_callTy call_int1 (by rfl) T.int (by decide +kernel) (pa_cons (pe_op op_fdiv (pv 0) pe_int) pa_nil)) pe_int) pe_int))
      (pss_cons (ps_if (pt_cmpR op_eq (pe_op op_mod (pe_callTy call_int1 (by rfl) T.int (by decide +kernel) (pa_cons (pv 0) pa_nil)) pe_int) pe_int (nomark _))
      (pss_one (ps_ret (pe_lst (pa_cons (pe_tup (pa_cons pe_str (pa_cons pe_int (pa_cons pe_int (pa_cons pe_int (pa_cons pe_int pa_nil)))))) (pa_cons (pe_tup (pa_cons pe_str (pa_cons pe_int pa_nil))) (pa_cons (pe_tup (pa_cons pe_str (pa_cons pe_int pa_nil))) (pa_cons (pe_tup (pa_cons pe_str (pa_cons (pv 1) (pa_cons pe_int pa_nil)))) pa_nil)))))))
      pss_nil)
      (pss_cons (ps_if (pt_cmpR op_eq (pe_op op_mod (pe_callTy call_int1 (by rfl) T.int (by decide +kernel) (pa_cons (pv 0) pa_nil)) pe_int) pe_int (nomark _))
      (pss_one (ps_ret (pe_lst (pa_cons (pe_tup (pa_cons pe_str (pa_cons pe_int (pa_cons (pe_un un_neg pe_int) (pa_cons pe_int (pa_cons pe_int pa_nil)))))) (pa_cons (pe_tup (pa_cons pe_str (pa_cons pe_int pa_nil))) (pa_cons (pe_tup (pa_cons pe_str (pa_cons pe_int pa_nil))) (pa_cons (pe_tup (pa_cons pe_str (pa_cons pe_int (pa_cons (pv 1) pa_nil)))) pa_nil)))))))
      pss_nil)
      (pss_one (ps_ret (pe_lst (pa_cons (pe_tup (pa_cons pe_str (pa_cons pe_int (pa_cons pe_int (pa_cons pe_int (pa_cons pe_int pa_nil)))))) (pa_cons (pe_tup (pa_cons pe_str (pa_cons pe_int pa_nil))) (pa_cons (pe_tup (pa_cons pe_str (pa_cons pe_int pa_nil))) (pa_cons (pe_tup (pa_cons pe_str (pa_cons (pv 1) (pa_cons (pv 1) pa_nil)))) (pa_cons (pe_tup (pa_cons pe_str (pa_cons pe_int pa_nil))) pa_nil))))))))))), ?_⟩
    walk_at "gf"
    refine iteEq (fun c => ?_) (fun c => ?_)
    · walk_at "gf"
      rename_i p1 h1 p2 h2 p3 h3 p4 h4 p5 h5
      have S1 := (Lay.nil (K := K) (H := H)).snoc h1 (.add 16777216 0 1 1)
      have S2 := S1.snoc h2 (.scale 8)
      have S3 := S2.snoc h3 (.scale 8)
      have S4 := S3.snoc h4 (.shift (row / 7 % 3 - 1) 0)
      refine q.go p5 _ _ _ _ S4.s (same_upd h5) h5 upd_same S4.at_ (by simp) (by show (1 : Nat) ≤ 1; decide) ?_
      intro o ho
      simp only [List.nil_append, List.cons_append, List.mem_cons, List.not_mem_nil, or_false] at ho
      rcases ho with rfl | rfl | rfl | rfl
      · trivial
      · exact ⟨by decide, by decide⟩
      · exact ⟨by decide, by decide⟩
      · trivial
    walk_at "gf"
    refine iteEq (fun c => ?_) (fun c => ?_)
    · walk_at "gf"
      rename_i p1 h1 p2 h2 p3 h3 p4 h4 p5 h5
      have S1 := (Lay.nil (K := K) (H := H)).snoc h1 (.add 0 (-16777216) 1 1)
      have S2 := S1.snoc h2 (.scale 8)
      have S3 := S2.snoc h3 (.scale 8)
      have S4 := S3.snoc h4 (.shift 0 (row / 7 % 3 - 1))
      refine q.go p5 _ _ _ _ S4.s (same_upd h5) h5 upd_same S4.at_ (by simp) (by show (1 : Nat) ≤ 1; decide) ?_
      intro o ho
      simp only [List.nil_append, List.cons_append, List.mem_cons, List.not_mem_nil, or_false] at ho
      rcases ho with rfl | rfl | rfl | rfl
      · trivial
      · exact ⟨by decide, by decide⟩
      · exact ⟨by decide, by decide⟩
      · trivial
    walk_at "gf"
    rename_i p1 h1 p2 h2 p3 h3 p4 h4 p5 h5 p6 h6
    have S1 := (Lay.nil (K := K) (H := H)).snoc h1 (.add 16777215 0 1 1)
    have S2 := S1.snoc h2 (.scale 8)
    have S3 := S2.snoc h3 (.scale 8)
    have S4 := S3.snoc h4 (.shift (row / 7 % 3 - 1) (row / 7 % 3 - 1))
    have S5 := S4.snoc h5 (.scale 1)
    refine q.go p6 _ _ _ _ S5.s (same_upd h6) h6 upd_same S5.at_ (by simp) (by show (1 : Nat) ≤ 1; decide) ?_
    intro o ho
    simp only [List.nil_append, List.cons_append, List.mem_cons, List.not_mem_nil, or_false] at ho
    rcases ho with rfl | rfl | rfl | rfl | rfl
    · trivial
    · exact ⟨by decide, by decide⟩
    · exact ⟨by decide, by decide⟩
    · trivial
    · exact ⟨by decide, by decide⟩
/-! ### the comb -/
def InComb : SOp → Prop
  | .add x y wd ht => (0 ≤ x ∧ x ≤ 264 ∧ 0 ≤ x + wd ∧ x + wd ≤ 264) ∧ 0 ≤ y ∧ y ≤ 17 ∧ 0 ≤ y + ht ∧ y + ht ≤ 17
  | .sub x y wd ht => (0 ≤ x ∧ x ≤ 264 ∧ 0 ≤ x + wd ∧ x + wd ≤ 264) ∧ 0 ≤ y ∧ y ≤ 17 ∧ 0 ≤ y + ht ∧ y + ht ≤ 17
  | _ => False
/-- steps in a list that grows: the list is outside the view -/
structure Grows (K : PySem.W.Frag) (H U H' : Hp) (p : Addr) (ads : List Addr) (ops : List SOp) : Prop where
  s : Same H U
  sH : Same U H'
  n : U p = none
  e : H' p = some (.lst (ads.map V.ref))
  at_ : StepsAt K U ads ops
theorem Grows.len {K : PySem.W.Frag} {H U H' : Hp} {p : Addr} {ads : List Addr} {ops : List SOp} (g : Grows K H U H' p ads ops) : ads.length = ops.length := g.at_.len
theorem Grows.snoc {K : PySem.W.Frag} {H U H' : Hp} {p : Addr} {ads : List Addr} {ops : List SOp} (g : Grows K H U H' p ads ops) {q : Addr} (hq : H' q = none) (o : SOp) : Grows K H (upd U q (.tup o.vs)) (upd (upd H' q (.tup o.vs)) p (.lst (ads.map V.ref ++ [.ref q]))) p (ads ++ [q]) (ops ++ [o]) := by
  have uq : U q = none := by
    cases h : U q with
    | none => rfl
    | some x => have := g.sH q x h; rw [hq] at this; cases this
  have hpq : p ≠ q := fun z => by have := g.e; rw [z, hq] at this; cases this
  refine ⟨g.s.trans (same_upd uq), fun b u e => ?_, by rw [upd_ne hpq]; exact g.n, by rw [upd_same, List.map_append]; rfl, g.at_.snoc uq o⟩
  have hb : b ≠ p := fun z => by rw [z, upd_ne hpq, g.n] at e; cases e
  rw [upd_ne hb]
  by_cases c : b = q
  · rw [c, upd_same] at e ⊢; exact e
  · rw [upd_ne c] at e ⊢; exact g.sH b u e
def sp__law_comb (K : PySem.W.Frag) : Sp := fun vs H Q _ => ∃ (row : Int), vs = [.int row] ∧ 0 ≤ row ∧ ∀ (p : Addr) (ads : List Addr) (ops : List SOp) (U H' : Hp), Grows K H U H' p ads ops → ops.length ≤ 140 → ops ≠ [] → (∀ o ∈ ops, InComb o) → Q (.ref p) H'
theorem sc__law_comb : FnScope ["row", "wide", "steps", "k"] ["row"] (defScope s__law_comb) := ⟨rfl, rfl, rfl, by decide +kernel, rfl, by decide +kernel, by decide +kernel⟩
theorem ok__law_comb (T : Txt K mg A) : FnOk P w K mg base CX0 1 A.f_law_comb A.d_law_comb ["row"] (sp__law_comb K) := by
  refine T.F_law_comb.ok sc__law_comb (fun vs H Q E h => ?_) (fun cdv Ar outer st H vs Q E hr h => ?_)
  · obtain ⟨_, rfl, _⟩ := h
    rfl
  · obtain ⟨row, rfl, hr0, q⟩ := h
    replace q := Hid.mk q
    refine ⟨_, (pss_cons (ps_set (i := 1) sc__law_comb.nd rfl (Or.inl rfl) (pe_op op_add (pe_op op_mod (pe_callTy call_int1 (by rfl) T.int (by decide +kernel) (pa_cons (pv 0) pa_nil)) pe_int) pe_int))
      (pss_cons (ps_set (i := 2) sc__law_comb.nd rfl (Or.inl rfl) (pe_lst (pa_cons (pe_tup (pa_cons pe_str (pa_cons pe_int (pa_cons pe_int (pa_cons (pe_op op_mul pe_int (pv 1)) (pa_cons pe_int pa_nil)))))) pa_nil)))
      (pss_cons (ps_for PassesOwn.never rfl (pi_range1 (by rfl) T.range (pa_cons (pv 1) pa_nil)) (pg_name (i := 3) sc__law_comb.nd rfl (Or.inl rfl))
      (pss_one (ps_expr (pe_bm PySem.F.plainAttrs_list PySem.F.slot_list_append PySem.F.type_list_append mt_append (pv 2) (pa_cons (pe_tup (pa_cons pe_str (pa_cons (pe_op op_add (pe_op op_mul pe_int (pv 3)) pe_int) (pa_cons pe_int (pa_cons pe_int (pa_cons pe_int pa_nil)))))) pa_nil)))))
      (pss_cons (ps_for PassesOwn.never rfl (pi_range1 (by rfl) T.range (pa_cons pe_int pa_nil)) (pg_name (i := 3) sc__law_comb.nd rfl (Or.inl rfl))
      (pss_one (ps_expr (pe_bm PySem.F.plainAttrs_list PySem.F.slot_list_append PySem.F.type_list_append mt_append (pv 2) (pa_cons (pe_tup (pa_cons pe_str (pa_cons pe_int (pa_cons (pe_op op_add (pe_op op_mul pe_int (pv 3)) pe_int) (pa_cons (pe_op op_mul pe_int (pv 1)) (pa_cons pe_int pa_nil)))))) pa_nil)))))
      (pss_one (ps_ret (pv 2))))))), ?_⟩
    walk_at "gf"
    rename_i p1 h1 p2 h2
    have hm : 0 ≤ row % 14 ∧ row % 14 < 14 := by omega
    generalize row % 14 = m at hm h2 ⊢
    have L1 := (Lay.nil (K := K) (H := H)).snoc h1 (.add 0 0 (2 * (m + 118)) 16)
    have g0 : Grows K H _ (upd (upd H p1 (.tup (SOp.add 0 0 (2 * (m + 118)) 16).vs)) p2 (.lst [.ref p1])) p2 ([] ++ [p1]) ([] ++ [.add 0 0 (2 * (m + 118)) 16]) := ⟨L1.s, same_upd h2, h2, upd_same, L1.at_⟩
    refine ⟨by omega, by omega, for_range (lo := 0) (fun i σ H' => ∃ (U : Hp) (ads : List Addr) (ops : List SOp) (v3 : Option V), σ = [some (.int row), some (.int (m + 118)), some (.ref p2), v3] ∧ Grows K H U H' p2 ads ops ∧ ops.length = 1 + i ∧ ∀ o ∈ ops, InComb o) ⟨_, _, _, _, rfl, g0, rfl, fun o ho => ?_⟩ ?_ ?_⟩
    · obtain rfl : o = .add 0 0 (2 * (m + 118)) 16 := by simpa using ho
      exact ⟨by omega, by omega⟩
    · rintro i σ H5 hi ⟨U, ads, ops, v3, rfl, g, hl, hc⟩
      have hal := g.len
      walk_at "gf"
      refine ⟨.inl ⟨rfl, _, SqL.of g.e⟩, ?_⟩
      walk_at "gf"
      rename_i pn hpn
      have hpq : p2 ≠ pn := fun z => by have := g.e; rw [z, hpn] at this; cases this
      have g' := g.snoc hpn (.sub (2 * (0 + (i : Int)) + 1) 0 1 16)
      walk_at "nl"
      refine ⟨p2, _, _, rfl, rfl, (upd_ne hpq).trans g.e, lt_line (by rw [List.length_map]; omega), ?_⟩
      refine ⟨_, _, _, _, rfl, g', by rw [List.length_append, hl]; show 1 + i + 1 = 1 + (i + 1); omega, fun o ho => ?_⟩
      rcases List.mem_append.mp ho with ho | ho
      · exact hc o ho
      · obtain rfl := List.mem_singleton.mp ho
        exact ⟨by omega, by omega⟩
    · rintro σ H5 ⟨U, ads, ops, v3, rfl, g, hl, hc⟩
      walk_at "gf"
      refine ⟨by decide, by decide, for_range (lo := 0) (fun i σ H' => ∃ (U : Hp) (ads : List Addr) (ops : List SOp) (v3 : Option V), σ = [some (.int row), some (.int (m + 118)), some (.ref p2), v3] ∧ Grows K H U H' p2 ads ops ∧ ops.length = 1 + (m + 118).toNat + i ∧ ∀ o ∈ ops, InComb o) ⟨_, _, _, _, rfl, g, hl, hc⟩ ?_ ?_⟩
      · clear g hc hl
        rintro i σ H5 hi ⟨U, ads, ops, v3, rfl, g, hl, hc⟩
        have hi8 : i < 8 := hi
        have hal := g.len
        walk_at "gf"
        refine ⟨.inl ⟨rfl, _, SqL.of g.e⟩, ?_⟩
        walk_at "gf"
        rename_i pn hpn
        have hpq : p2 ≠ pn := fun z => by have := g.e; rw [z, hpn] at this; cases this
        have g' := g.snoc hpn (.sub 0 (2 * (0 + (i : Int)) + 1) (2 * (m + 118)) 1)
        walk_at "nl"
        refine ⟨p2, _, _, rfl, rfl, (upd_ne hpq).trans g.e, lt_line (by rw [List.length_map]; omega), ?_⟩
        refine ⟨_, _, _, _, rfl, g', by rw [List.length_append, hl]; show _ + i + 1 = _ + (i + 1); omega, fun o ho => ?_⟩
        rcases List.mem_append.mp ho with ho | ho
        · exact hc o ho
        · obtain rfl := List.mem_singleton.mp ho
          exact ⟨by omega, by omega⟩
      · clear g hc hl
        rintro σ H5 ⟨U, ads, ops, v3, rfl, g, hl, hc⟩
        walk_at "gf"
        exact q.go p2 ads ops U H5 g (by rw [hl]; show _ + 8 ≤ 140; omega) (fun z => by rw [z] at hl; have : (0 : Nat) = 1 + (m + 118).toNat + 8 := hl; omega) hc
/-! ### -/
theorem useR {R B C G : Prop} (h : (¬ C → R) → (C → B) → G) (r : ¬ C → R) (b : C → B) : G := h r b
/-! ### the law's own step -/
theorem sc__law_after : FnScope ["region", "step", "part"] ["region", "step"] (defScope s__law_after) := ⟨rfl, rfl, rfl, by decide +kernel, rfl, by decide +kernel, by decide +kernel⟩
theorem ok__law_after (T : Txt K mg A) : FnOk P w K mg base CX0 6 A.f_law_after A.d_law_after ["region", "step"] (sp__after_step K) := by
  refine T.F_law_after.ok sc__law_after (fun vs H Q E h => ?_) (fun cdv Ar outer st H vs Q E hr h => ?_)
  · obtain ⟨_, _, _, _, _, _, _, _, rfl, _⟩ := h
    rfl
  · obtain ⟨v, sa, o, R, X, Y, X', Y', rfl, dv, hs, hR, sm, ok, ht, hx, hy, sm', q⟩ := h
    replace q := Hid.mk q
    refine ⟨_, (pss_cons (ps_if (pt_cmpR op_eq (pe_ix (r := rIxT K) ix_tup (pv 1) pe_int (fun _ _ => rfl)) pe_str (nomark _))
      (pss_one (ps_ret (pe_call (ok_shifted T) (hr.mono (by decide)) rfl T.gshifted T.kshifted T.bshifted .nil pass0 (pa_cons (pv 0) (pa_cons (pe_ix (r := rIxT K) ix_tup (pv 1) pe_int (fun _ _ => rfl)) (pa_cons (pe_ix (r := rIxT K) ix_tup (pv 1) pe_int (fun _ _ => rfl)) pa_nil))))))
      pss_nil)
      (pss_cons (ps_if (pt_cmpR op_eq (pe_ix (r := rIxT K) ix_tup (pv 1) pe_int (fun _ _ => rfl)) pe_str (nomark _))
      (pss_one (ps_ret (pe_call (ok_scaled T) (hr.mono (by decide)) rfl T.gscaled T.kscaled T.bscaled .nil pass0 (pa_cons (pv 0) (pa_cons (pe_ix (r := rIxT K) ix_tup (pv 1) pe_int (fun _ _ => rfl)) pa_nil)))))
      pss_nil)
      (pss_cons (ps_if (pt_cmpR op_eq (pe_ix (r := rIxT K) ix_tup (pv 1) pe_int (fun _ _ => rfl)) pe_str (nomark _))
      (pss_one (ps_ret (pe_call (ok_turned T) (hr.mono (by decide)) rfl T.gturned T.kturned T.bturned .nil pass0 (pa_cons (pv 0) (pa_cons (pe_ix (r := rIxT K) ix_tup (pv 1) pe_int (fun _ _ => rfl)) pa_nil)))))
      pss_nil)
      (pss_cons (ps_if (pt_cmpR op_eq (pe_ix (r := rIxT K) ix_tup (pv 1) pe_int (fun _ _ => rfl)) pe_str (nomark _))
      (pss_one (ps_ret (pe_call (ok_mirrored T) (hr.mono (by decide)) rfl T.gmirrored T.kmirrored T.bmirrored .nil pass0 (pa_cons (pv 0) (pa_cons (pe_ix (r := rIxT K) ix_tup (pv 1) pe_int (fun _ _ => rfl)) pa_nil)))))
      pss_nil)
      (pss_cons (ps_set (i := 2) sc__law_after.nd rfl (Or.inl rfl) (pe_call (ok_rectangle_region T) (hr.mono (by decide)) rfl T.grectangle_region T.krectangle_region T.brectangle_region .nil pass0 (pa_cons (pe_ix (r := rIxT K) ix_tup (pv 1) pe_int (fun _ _ => rfl)) (pa_cons (pe_ix (r := rIxT K) ix_tup (pv 1) pe_int (fun _ _ => rfl)) (pa_cons (pe_ix (r := rIxT K) ix_tup (pv 1) pe_int (fun _ _ => rfl)) (pa_cons (pe_ix (r := rIxT K) ix_tup (pv 1) pe_int (fun _ _ => rfl)) pa_nil))))))
      (pss_cons (ps_if (pt_cmpR op_eq (pe_ix (r := rIxT K) ix_tup (pv 1) pe_int (fun _ _ => rfl)) pe_str (nomark _))
      (pss_one (ps_ret (pe_call (ok_united T) (hr.mono (by decide)) rfl T.gunited T.kunited T.bunited .nil pass0 (pa_cons (pv 0) (pa_cons (pv 2) pa_nil)))))
      pss_nil)
      (pss_cons (ps_if (pt_cmpR op_eq (pe_ix (r := rIxT K) ix_tup (pv 1) pe_int (fun _ _ => rfl)) pe_str (nomark _))
      (pss_one (ps_ret (pe_call (ok_without T) (hr.mono (by decide)) rfl T.gwithout T.kwithout T.bwithout .nil pass0 (pa_cons (pv 0) (pa_cons (pv 2) pa_nil)))))
      pss_nil)
      (pss_one (ps_ret (pe_call (ok_common T) (hr.mono (by decide)) rfl T.gcommon T.kcommon T.bcommon .nil pass0 (pa_cons (pv 0) (pa_cons (pv 2) pa_nil)))))))))))), ?_⟩
    cases o with
    | add x y wd ht' =>
      replace hs : SqT K H sa [.str "add", .int x, .int y, .int wd, .int ht'] := hs
      walk_at "gf"
      refine ⟨x, y, wd, ht', _, rfl, Same.refl _, fun v1 U1 H1 x1 d1 => ?_⟩
      have s1 := x1.hh
      have d1' := d1.to x1.vh
      have rr : RegIn X' Y' (rectReg x y wd ht') := rect_in ⟨hx _ (by unfold SOp.gx; simp), hx _ (by unfold SOp.gx; simp)⟩ ⟨hy _ (by unfold SOp.gy; simp), hy _ (by unfold SOp.gy; simp)⟩
      have fin := after_rect (op := or) (Q := Q) hR (fun k hk => hx k (List.mem_append_left _ hk)) (fun k hk => hy k (List.mem_append_left _ hk)) sm' rr dv d1' s1 fun v' H' s' d' => q.go v' _ H' (s1.trans s') d' rfl (StepR.reg (o := .add x y wd ht') rfl hR trivial (fun _ z => nomatch z) hx hy)
      replace hs := s1.sqt hs
      clear q x1 d1 d1' hx hy rr
      walk_at "gf"
      exact fin
    | sub x y wd ht' =>
      replace hs : SqT K H sa [.str "subtract", .int x, .int y, .int wd, .int ht'] := hs
      walk_at "gf"
      refine ⟨x, y, wd, ht', _, rfl, Same.refl _, fun v1 U1 H1 x1 d1 => ?_⟩
      have s1 := x1.hh
      have d1' := d1.to x1.vh
      have rr : RegIn X' Y' (rectReg x y wd ht') := rect_in ⟨hx _ (by unfold SOp.gx; simp), hx _ (by unfold SOp.gx; simp)⟩ ⟨hy _ (by unfold SOp.gy; simp), hy _ (by unfold SOp.gy; simp)⟩
      have fin := after_rect (op := (fun a b => a && !b)) (Q := Q) hR (fun k hk => hx k (List.mem_append_left _ hk)) (fun k hk => hy k (List.mem_append_left _ hk)) sm' rr dv d1' s1 fun v' H' s' d' => q.go v' _ H' (s1.trans s') d' rfl (StepR.reg (o := .sub x y wd ht') rfl hR trivial (fun _ z => nomatch z) hx hy)
      replace hs := s1.sqt hs
      clear q x1 d1 d1' hx hy rr
      walk_at "gf"
      exact fin
    | meet x y wd ht' =>
      replace hs : SqT K H sa [.str "meet", .int x, .int y, .int wd, .int ht'] := hs
      walk_at "gf"
      refine ⟨x, y, wd, ht', _, rfl, Same.refl _, fun v1 U1 H1 x1 d1 => ?_⟩
      have s1 := x1.hh
      have d1' := d1.to x1.vh
      have rr : RegIn X' Y' (rectReg x y wd ht') := rect_in ⟨hx _ (by unfold SOp.gx; simp), hx _ (by unfold SOp.gx; simp)⟩ ⟨hy _ (by unfold SOp.gy; simp), hy _ (by unfold SOp.gy; simp)⟩
      have fin := after_rect (op := and) (Q := Q) hR (fun k hk => hx k (List.mem_append_left _ hk)) (fun k hk => hy k (List.mem_append_left _ hk)) sm' rr dv d1' s1 fun v' H' s' d' => q.go v' _ H' (s1.trans s') d' rfl (StepR.reg (o := .meet x y wd ht') rfl hR trivial (fun _ z => nomatch z) hx hy)
      replace hs := s1.sqt hs
      clear q x1 d1 d1' hx hy rr
      walk_at "gf"
      exact fin
    | shift dx dy =>
      replace hs : SqT K H sa [.str "shift", .int dx, .int dy] := hs
      walk_at "gf"
      refine ⟨dx, dy, v, R, rfl, dv, hR.ok sm.1 sm.2, fun v' H' s' d' => ?_⟩
      exact q.go v' _ H' s' d' rfl (StepR.reg (o := .shift dx dy) rfl hR trivial (fun _ z => nomatch z) hx hy)
    | scale n =>
      replace hs : SqT K H sa [.str "scale", .int n] := hs
      walk_at "gf"
      refine ⟨n, ok, v, R, rfl, dv, hR.ok sm.1 sm.2, fun v' H' s' d' => ?_⟩
      exact q.go v' _ H' s' d' rfl (StepR.reg (o := .scale n) rfl hR ok (fun _ z => nomatch z) hx hy)
    | turn hh =>
      replace hs : SqT K H sa [.str "turn", .int hh] := hs
      walk_at "gf"
      refine ⟨v, hh, R, X, Y, rfl, dv, hR, ht hh rfl, sm.2, fun v' R' H' s' d' r' e' => ?_⟩
      exact q.go v' _ H' s' d' ⟨r'.u, e'⟩ (StepR.reg (o := .turn hh) (R := R) ⟨r'.u, e'⟩ hR trivial (fun _ z => by cases z; exact r') hx hy)
    | mir wd =>
      replace hs : SqT K H sa [.str "mirror", .int wd] := hs
      walk_at "gf"
      refine ⟨v, R, wd, rfl, dv, hR.ok sm.1 sm.2, fun v' H' s' d' => ?_⟩
      exact q.go v' _ H' s' d' rfl (StepR.reg (o := .mir wd) rfl hR trivial (fun _ z => nomatch z) hx hy)
def sp__law_fault (K : PySem.W.Frag) : Sp := fun vs H Q _ => ∃ (v : V) (R : List Band), vs = [v] ∧ Dp K H v (regD R) ∧ RegOk R ∧ ∀ H', Same H H' → Q (.str (flt R)) H'
theorem sc__law_fault : FnScope ["region", "band", "span"] ["region"] (defScope s__law_fault) := ⟨rfl, rfl, rfl, by decide +kernel, rfl, by decide +kernel, by decide +kernel⟩
theorem ok__law_fault (T : Txt K mg A) : FnOk P w K mg base CX0 2 A.f_law_fault A.d_law_fault ["region"] (sp__law_fault K) := by
  refine T.F_law_fault.ok sc__law_fault (fun vs H Q E h => ?_) (fun cdv Ar outer st H vs Q E hr h => ?_)
  · obtain ⟨_, _, rfl, _⟩ := h
    rfl
  · obtain ⟨v, R, rfl, dv, oR, q⟩ := h
    replace q := Hid.mk q
    refine ⟨_, (pss_cons (ps_for PassesOwn.never rfl (pi_list (pv 0)) (pg_name (i := 1) sc__law_fault.nd rfl (Or.inl rfl))
      (pss_cons (ps_if (PW.pt (pw_or (pt_cmpR op_lt (pe_ix (r := rIxT K) ix_tup (pv 1) pe_int (fun _ _ => rfl)) (pe_un un_neg pe_int) (nomark _)) (pw_or1 (pt_cmpR op_gt (pe_ix (r := rIxT K) ix_tup (pv 1) pe_int (fun _ _ => rfl)) pe_int (nomark _)))))
      (pss_one (ps_ret pe_str))
      pss_nil)
      (pss_one (ps_for PassesOwn.never rfl (pi_tup (pe_ix (r := rIxT K) ix_tup (pv 1) pe_int (fun _ _ => rfl))) (pg_name (i := 2) sc__law_fault.nd rfl (Or.inl rfl))
      (pss_one (ps_if (PW.pt (pw_or (pt_cmpR op_lt (pe_ix (r := rIxT K) ix_tup (pv 2) pe_int (fun _ _ => rfl)) (pe_un un_neg pe_int) (nomark _)) (pw_or1 (pt_cmpR op_gt (pe_ix (r := rIxT K) ix_tup (pv 2) pe_int (fun _ _ => rfl)) pe_int (nomark _)))))
      (pss_one (ps_ret pe_str))
      pss_nil))))))
      (pss_cons (ps_if (pt_cmpR op_gt (pe_callB call_len_seq (by rfl) T.len PySem.boot_len (pa_cons (pe_call (ok_rectangles T) (hr.mono (by decide)) rfl T.grectangles T.krectangles T.brectangles .nil pass0 (pa_cons (pv 0) pa_nil)) pa_nil)) pe_int (nomark _))
      (pss_one (ps_ret pe_str))
      pss_nil)
      (pss_one (ps_ret pe_str)))), ?_⟩
    obtain ⟨pa, xa, rfl, hpa, hxa⟩ := dp_list dv
    have lx : xa.length = R.length := by rw [dpall_len hxa, List.length_map]
    walk_at "gf"
    refine ⟨⟨_, hpa⟩, for_list (K := K) (a := pa) (xs := xa) (fun i σ H' => ∃ v1 v2 : Option V, σ = [some (.ref pa), v1, v2] ∧ H' = H ∧ (R.take i).any farB = false) ⟨_, _, rfl, rfl, rfl⟩ (fun i σ H' _ hh => ?_) ?_ ?_⟩
    · obtain ⟨_, _, _, rfl, _⟩ := hh
      exact hpa
    · rintro i x σ H1 hx ⟨v1, v2, rfl, rfl, hn⟩
      obtain ⟨d, hd, dx⟩ := dpall_get hxa hx
      rw [List.getElem?_map] at hd
      obtain ⟨b, hb, rfl⟩ := Option.map_eq_some_iff.mp hd
      obtain ⟨ab, p, ss, rfl, qa, qp, qs⟩ := dp_band dx
      have lss : ss.length = b.2.2.length := by rw [dpall_len qs, List.length_map]
      have bad : farB b = true → flt R = "large" := fun h => by
        unfold flt
        rw [if_pos (List.any_eq_true.mpr ⟨b, List.mem_of_getElem? hb, h⟩)]
      have tk : R.take (i + 1) = R.take i ++ [b] := by rw [List.take_succ, hb]; rfl
      have fb : farB b = (decide (b.1 < -farP ∨ farP < b.2.1) || b.2.2.any fun s => decide (s.1 < -farP ∨ farP < s.2)) := rfl
      walk_at "gf"
      apply useR (C := b.1 < -farP ∨ farP < b.2.1)
      · intro rr bb
        refine iteP (fun c => bb (.inl c)) (fun c => ?_)
        walk_at "gf"
        exact iteP (fun c2 => bb (.inr c2)) (fun c2 => rr (fun z => z.elim c c2))
      · intro hn2
        walk_at "gf"
        refine ⟨⟨_, qp⟩, for_tup (K := K) (a := p) (xs := ss) (fun j σ H' => ∃ v2 : Option V, σ = [some (.ref pa), some (.ref ab), v2] ∧ H' = H1 ∧ ((b.2.2.take j).any fun s => decide (s.1 < -farP ∨ farP < s.2)) = false) ⟨_, rfl, rfl, rfl⟩ (fun j σ H' _ hh => ?_) ?_ ?_⟩
        · obtain ⟨_, _, rfl, _⟩ := hh
          exact qp
        · rintro j x σ H2 hx ⟨v2, rfl, rfl, hn3⟩
          obtain ⟨d, hd, dx⟩ := dpall_get qs hx
          rw [List.getElem?_map] at hd
          obtain ⟨s, hs, rfl⟩ := Option.map_eq_some_iff.mp hd
          obtain ⟨as, rfl, qsp⟩ := dp_span dx
          have tks : b.2.2.take (j + 1) = b.2.2.take j ++ [s] := by rw [List.take_succ, hs]; rfl
          have bad2 : (s.1 < -farP ∨ farP < s.2) → flt R = "large" := fun h => bad (by
            rw [fb, Bool.or_eq_true]
            exact .inr (List.any_eq_true.mpr ⟨s, List.mem_of_getElem? hs, decide_eq_true h⟩))
          walk_at "gf"
          apply useR (C := s.1 < -farP ∨ farP < s.2)
          · intro rr bb
            refine iteP (fun c => bb (.inl c)) (fun c => ?_)
            walk_at "gf"
            exact iteP (fun c2 => bb (.inr c2)) (fun c2 => rr (fun z => z.elim c c2))
          · intro hn4
            refine ⟨_, rfl, rfl, ?_⟩
            rw [tks, List.any_append, hn3, List.any_cons, decide_eq_false hn4]; rfl
          · intro hc
            have q' := q.go _ (Same.refl _)
            rw [bad2 hc] at q'
            walk_at "gf"
            exact q'
        · rintro σ H2 ⟨v2, rfl, rfl, hn3⟩
          rw [lss, List.take_length] at hn3
          refine ⟨_, _, rfl, rfl, ?_⟩
          rw [tk, List.any_append, hn, List.any_cons, fb, hn3, decide_eq_false hn2]; rfl
      · intro hc
        have q' := q.go _ (Same.refl _)
        rw [bad (by rw [fb, decide_eq_true hc]; rfl)] at q'
        walk_at "gf"
        exact q'
    · rintro σ H1 ⟨v1, v2, rfl, rfl, hn⟩
      rw [lx, List.take_length] at hn
      walk_at "gf"
      refine ⟨.ref pa, R, _, rfl, Same.refl _, dv, rects_few oR, by have := oR.few; omega, fun v' U3 H3 x3 d3 => ?_⟩
      obtain ⟨pr, xr, rfl, hpr, hxr⟩ := dp_list d3
      have hl : xr.length = (R.flatMap rectsOf).length := dpall_len hxr
      have s3 := x3.hh
      have ef : flt R = if 1000 < (R.flatMap rectsOf).length then ("complex" : Str) else ("" : Str) := by unfold flt; rw [hn]; rfl
      have q' := q.go _ s3
      rw [ef] at q'
      walk_at "gf"
      refine ⟨pr, xr, rfl, .inl (x3.vh.seq hpr), ?_⟩
      walk_at "gf"
      rw [hl]
      refine iteP (fun c => ?_) (fun c => ?_)
      · rw [if_pos (by omega)] at q'
        walk_at "gf"
        exact q'
      · rw [if_neg (by omega)] at q'
        walk_at "gf"
        exact q'
/-! ### the law's steps have few edges -/
theorem rc_cons (o : SOp) (r : List SOp) : rc (o :: r) = (if o.isRect = true then 1 else 0) + rc r := by
  unfold rc
  by_cases c : o.isRect = true
  · rw [List.filter_cons_of_pos c, if_pos c, List.length_cons]; omega
  · rw [List.filter_cons_of_neg c, if_neg c]; omega
theorem rc_le (ops : List SOp) : rc ops ≤ ops.length := List.length_filter_le _ _
theorem rc_app (a b : List SOp) : rc (a ++ b) = rc a + rc b := by
  unfold rc; rw [List.filter_append, List.length_append]
theorem fits_plain : ∀ (ops : List SOp) (X Y : List Int), (∀ o ∈ ops, o.ok) → X.length + 2 * rc ops < 64 → Y.length + 2 * rc ops < 64 → Fits X Y ops
  | [], _, _, _, _, _ => trivial
  | o :: r, X, Y, ok, hx, hy => by
    rw [rc_cons] at hx hy
    refine ⟨ok o List.mem_cons_self, fun _ _ => by omega, o.gx X Y, o.gy X Y, fun k h => h, fun k h => h, ?_, ?_⟩
    · unfold small2
      cases o <;> (simp only [SOp.gx, SOp.gy, SOp.isRect, List.length_append, List.length_map, List.length_cons, List.length_nil, if_true, Bool.false_eq_true, if_false] at hx hy ⊢; omega)
    · refine fits_plain r _ _ (fun q hq => ok q (List.mem_cons_of_mem _ hq)) ?_ ?_
      · cases o <;> (simp only [SOp.gx, SOp.isRect, List.length_append, List.length_map, List.length_cons, List.length_nil, if_true, Bool.false_eq_true, if_false] at hx hy ⊢; omega)
      · cases o <;> (simp only [SOp.gy, SOp.isRect, List.length_append, List.length_map, List.length_cons, List.length_nil, if_true, Bool.false_eq_true, if_false] at hx hy ⊢; omega)
theorem fits_noturn : ∀ (ops : List SOp) (X Y : List Int), (∀ o ∈ ops, o.ok ∧ o.isTurn = false) → X.length + 2 * rc ops < 400 → Y.length + 2 * rc ops < 64 → Fits X Y ops
  | [], _, _, _, _, _ => trivial
  | o :: r, X, Y, ok, hx, hy => by
    rw [rc_cons] at hx hy
    have ho := ok o List.mem_cons_self
    refine ⟨ho.1, fun _ e => (by rw [e] at ho; cases ho.2), o.gx X Y, o.gy X Y, fun k h => h, fun k h => h, ?_, ?_⟩
    · unfold small2
      cases o <;> first | (cases ho.2; done) | (simp only [SOp.gx, SOp.gy, SOp.isRect, List.length_append, List.length_map, List.length_cons, List.length_nil, if_true, Bool.false_eq_true, if_false] at hx hy ⊢; omega)
    · refine fits_noturn r _ _ (fun q hq => ok q (List.mem_cons_of_mem _ hq)) ?_ ?_
      · cases o <;> first | (cases ho.2; done) | (simp only [SOp.gx, SOp.isRect, List.length_append, List.length_map, List.length_cons, List.length_nil, if_true, Bool.false_eq_true, if_false] at hx hy ⊢; omega)
      · cases o <;> first | (cases ho.2; done) | (simp only [SOp.gy, SOp.isRect, List.length_append, List.length_map, List.length_cons, List.length_nil, if_true, Bool.false_eq_true, if_false] at hx hy ⊢; omega)
def X0 : List Int := (List.range 265).map fun n : Nat => (n : Int)
def Y0 : List Int := (List.range 18).map fun n : Nat => (n : Int)
theorem in_X0 {k : Int} (h0 : 0 ≤ k) (h1 : k ≤ 264) : k ∈ X0 := List.mem_map.mpr ⟨k.toNat, List.mem_range.mpr (by omega), by omega⟩
theorem in_Y0 {k : Int} (h0 : 0 ≤ k) (h1 : k ≤ 17) : k ∈ Y0 := List.mem_map.mpr ⟨k.toNat, List.mem_range.mpr (by omega), by omega⟩
theorem X0_len : X0.length = 265 := by unfold X0; rw [List.length_map, List.length_range]
theorem Y0_len : Y0.length = 18 := by unfold Y0; rw [List.length_map, List.length_range]
theorem comb_step {o : SOp} (h : InComb o) {X Y : List Int} (hx : ∀ k ∈ X, k ∈ X0) (hy : ∀ k ∈ Y, k ∈ Y0) {r : List SOp} (f : Fits X0 Y0 r) : Fits X Y (o :: r) := by
  have sm : small2 X0 Y0 := ⟨by rw [X0_len]; decide, by rw [Y0_len]; decide⟩
  have g : ∀ {x wd : Int}, (0 ≤ x ∧ x ≤ 264 ∧ 0 ≤ x + wd ∧ x + wd ≤ 264) → ∀ k ∈ X ++ [x, x + wd], k ∈ X0 := fun hh k hk => by
    rcases List.mem_append.mp hk with hk | hk
    · exact hx k hk
    · simp only [List.mem_cons, List.not_mem_nil, or_false] at hk
      rcases hk with rfl | rfl
      · exact in_X0 hh.1 hh.2.1
      · exact in_X0 hh.2.2.1 hh.2.2.2
  have g2 : ∀ {y ht : Int}, (0 ≤ y ∧ y ≤ 17 ∧ 0 ≤ y + ht ∧ y + ht ≤ 17) → ∀ k ∈ Y ++ [y, y + ht], k ∈ Y0 := fun hh k hk => by
    rcases List.mem_append.mp hk with hk | hk
    · exact hy k hk
    · simp only [List.mem_cons, List.not_mem_nil, or_false] at hk
      rcases hk with rfl | rfl
      · exact in_Y0 hh.1 hh.2.1
      · exact in_Y0 hh.2.2.1 hh.2.2.2
  cases o with
  | add x y wd ht => exact ⟨trivial, (fun _ e => nomatch e), X0, Y0, g h.1, g2 h.2, sm, f⟩
  | sub x y wd ht => exact ⟨trivial, (fun _ e => nomatch e), X0, Y0, g h.1, g2 h.2, sm, f⟩
  | meet => cases h
  | shift => cases h
  | scale => cases h
  | turn => cases h
  | mir => cases h
theorem fits_comb : ∀ (pre : List SOp) {rest : List SOp}, (∀ o ∈ pre, InComb o) → Fits X0 Y0 rest → Fits X0 Y0 (pre ++ rest)
  | [], _, _, f => f
  | o :: p, _, h, f => comb_step (h o List.mem_cons_self) (fun _ z => z) (fun _ z => z) (fits_comb p (fun q hq => h q (List.mem_cons_of_mem _ hq)) f)
/-- the law's two kinds of what is laid ahead -/
def PreC (cb : Bool) (pre : List SOp) : Prop := (cb = true ∧ pre ≠ [] ∧ pre.length ≤ 140 ∧ ∀ o ∈ pre, InComb o) ∨ (pre.length ≤ 5 ∧ rc pre ≤ 1 ∧ ∀ o ∈ pre, o.ok)
theorem fits_law {cb : Bool} {pre more : List SOp} (h : PreC cb pre) (hl : more.length ≤ 20) (ok : ∀ o ∈ more, o.ok) (nt : cb = true → ∀ o ∈ more, o.isTurn = false) : Fits [] [] (pre ++ more) ∧ (pre ++ more).length < 1000 := by
  have hr := rc_le more
  rcases h with ⟨hc, hne, h1, h2⟩ | ⟨h1, h2, h3⟩
  · refine ⟨?_, by rw [List.length_append]; omega⟩
    have f : Fits X0 Y0 more := fits_noturn more X0 Y0 (fun o ho => ⟨ok o ho, nt hc o ho⟩) (by rw [X0_len]; omega) (by rw [Y0_len]; omega)
    cases pre with
    | nil => exact absurd rfl hne
    | cons o p => exact comb_step (h2 o List.mem_cons_self) (fun _ z => by cases z) (fun _ z => by cases z) (fits_comb p (fun q hq => h2 q (List.mem_cons_of_mem _ hq)) f)
  · refine ⟨fits_plain _ [] [] (fun o ho => (List.mem_append.mp ho).elim (h3 o) (ok o)) ?_ ?_, by rw [List.length_append]; omega⟩
    · rw [rc_app]; show 0 + _ < 64; omega
    · rw [rc_app]; show 0 + _ < 64; omega
/-! ### what the program tells -/
/-- a rule: isinstance(e, c) of the error that a named clause holds -/
def rIsEg (K : PySem.W.Frag) (cls : Value) (d : Option Addr) (a : Addr) : List V → Hp → VK → Prop := fun xs H Q => ∃ D : Addr, cls = .ref D ∧ d = none ∧ ExcC K D ∧ rIsE K D a xs H Q
theorem call_isEg {X : Cx} {a : Addr} {cls : Value} {d : Option Addr} {oe : Obj} {pn : List (Addr × Obj)} (hz : Zc cls d oe) (hf : ∃ vs, oe.data = .fields vs) : CallR (X.suite a ((a, oe) :: pn)) (.builtin "isinstance") (rIsEg X.K cls d a) := by
  intro pins s σ H xs us Q I r h
  obtain ⟨D, rfl, rfl, C, h⟩ := h
  exact call_isE C hz hf pins s σ H xs us Q I r h
def sp__law_told (K : PySem.W.Frag) : Sp := fun vs H Q _ => ∃ (a : Addr) (ads : List Addr) (ops : List SOp), vs = [.ref a] ∧ SqL K H a (ads.map V.ref) ∧ StepsAt K H ads ops ∧ ops.length < 1000 ∧ Fits [] [] ops ∧
  (∀ j R, j ≤ ops.length → Tr (ops.take j) R → flt R ≠ "" → ∀ p H', Same H H' → H' p = some (.tup [.str (flt R), .bl true]) → Q (.ref p) H') ∧
  (∀ R v p H', Same H H' → Tr ops R → flt R = "" → Dp K H' v (regD R) → H' p = some (.tup [.str "", v]) → Q (.ref p) H')
theorem sc__law_told : FnScope ["steps", "e"] ["steps"] (defScope s__law_told) := ⟨rfl, rfl, rfl, by decide +kernel, rfl, by decide +kernel, by decide +kernel⟩
theorem ok__law_told (T : Txt K mg A) : FnOk P w K mg base CX0 8 A.f_law_told A.d_law_told ["steps"] (sp__law_told K) := by
  refine T.F_law_told.ok sc__law_told (fun vs H Q E h => ?_) (fun cdv Ar outer st H vs Q E hr h => ?_)
  · obtain ⟨_, _, _, rfl, _⟩ := h
    rfl
  · obtain ⟨a, ads, ops, rfl, hs, hS, hn, hF, q1, q2⟩ := h
    replace q1 := Hid.mk q1
    replace q2 := Hid.mk q2
    refine ⟨_, (pss_one (ps_try_manyAs rfl rfl sc__law_told.nd takes0 (fun W pn xe tk _ => (pss_one (ps_ret (pe_tup (pa_cons pe_str (pa_cons (pe_callS (ok_region_of (P := P) (w := w) (base := base) T) (hr.mono (by decide)) rfl T.gregion_of T.kregion_of T.bregion_of (fun σ => passAt tk σ) (pa_cons (pv 0) pa_nil)) pa_nil))))))
      (.cons (i := 1) rfl rfl ⟨rfl, by decide, .inl T.gRegionTooLarge⟩ (fun a oe cls d pn hz hf => (pss_one (ps_ret (pe_tup (pa_cons pe_str (pa_cons (pe_and (pe_callB (call_isEg hz hf) (by rfl) T.isinstance (by decide +kernel) (pa_cons (pv 1) (pa_cons (pe_glob (v := .ref A.CDisplayError) rfl T.gDisplayError rfl) pa_nil))) (pe_one (pe_not (pe_callB (call_isEg hz hf) (by rfl) T.isinstance (by decide +kernel) (pa_cons (pv 1) (pa_cons (pe_glob (v := .ref A.CRegionTooComplex) rfl T.gRegionTooComplex rfl) pa_nil)))))) pa_nil)))))) (.cons (i := 1) rfl rfl ⟨rfl, by decide, .inl T.gRegionTooComplex⟩ (fun a oe cls d pn hz hf => (pss_one (ps_ret (pe_tup (pa_cons pe_str (pa_cons (pe_and (pe_callB (call_isEg hz hf) (by rfl) T.isinstance (by decide +kernel) (pa_cons (pv 1) (pa_cons (pe_glob (v := .ref A.CDisplayError) rfl T.gDisplayError rfl) pa_nil))) (pe_one (pe_not (pe_callB (call_isEg hz hf) (by rfl) T.isinstance (by decide +kernel) (pa_cons (pv 1) (pa_cons (pe_glob (v := .ref A.CRegionTooLarge) rfl T.gRegionTooLarge rfl) pa_nil)))))) pa_nil)))))) .nil)))), ?_⟩
    walk_at "gf"
    refine ⟨a, ads, ops, rfl, hs, hS, hn, hF, fun j R hj tr f H' s => ?_, fun j R hj tr f H' s => ?_, fun R v H' s tr f dv => ?_⟩
    · refine ⟨true, T.exRegionTooLarge, (fun _ x hx => ?_), (fun z => nomatch z)⟩
      have q' := q1.go j R hj tr (by rw [f]; decide +kernel)
      rw [f] at q'
      walk_at "gf"
      refine ⟨T.iERegionTooLarge, _, _, _, rfl, (fun _ r => r), T.kitRegionTooLarge_DisplayError, ?_⟩
      walk_at "gf"
      refine ⟨T.iERegionTooLarge, _, _, _, rfl, (fun _ r => r), T.kitRegionTooLarge_RegionTooComplex, ?_⟩
      walk_at "gf"
      rename_i p hp
      exact q' p _ (s.trans (same_upd hp)) upd_same
    · refine ⟨false, T.exRegionTooComplex_RegionTooLarge, (fun z => nomatch z), (fun _ => ⟨true, T.exRegionTooComplex, (fun _ x hx => ?_), (fun z => nomatch z)⟩)⟩
      have q' := q1.go j R hj tr (by rw [f]; decide +kernel)
      rw [f] at q'
      walk_at "gf"
      refine ⟨T.iERegionTooComplex, _, _, _, rfl, (fun _ r => r), T.kitRegionTooComplex_DisplayError, ?_⟩
      walk_at "gf"
      refine ⟨T.iERegionTooComplex, _, _, _, rfl, (fun _ r => r), T.kitRegionTooComplex_RegionTooLarge, ?_⟩
      walk_at "gf"
      rename_i p hp
      exact q' p _ (s.trans (same_upd hp)) upd_same
    · walk_at "gf"
      rename_i p hp
      exact q2.go R v p _ (s.trans (same_upd hp)) tr f (dv.to (same_upd hp)) upd_same
/-! ### the law -/
def SOp.d (o : SOp) : PyData := .tuple (.str o.word :: o.nums.map PyData.int)
def opsD (ops : List SOp) : PyData := .list (ops.map SOp.d)
theorem stepsAt_dp {K : PySem.W.Frag} {H : Hp} : ∀ {ads : List Addr} {ops : List SOp}, ads.length = ops.length → (∀ (i : Nat) (a : Addr) (o : SOp), ads[i]? = some a → ops[i]? = some o → SqT K H a o.vs) → DpAll K H (ads.map V.ref) (ops.map SOp.d)
  | [], [], _, _ => .nil
  | a :: ads, o :: ops, h, f => .cons (.tup (f 0 a o rfl rfl) (.cons (.str _) (dpall_ints _))) (stepsAt_dp (by simpa using h) fun i a o h1 h2 => f (i + 1) a o h1 h2)
  | [], _ :: _, h, _ => by cases h
  | _ :: _, [], h, _ => by cases h
theorem word_ok (o : SOp) : PyData.strOk o.word = true := by
  have h : ∀ s ∈ ([("add" : Str), "subtract", "meet", "shift", "scale", "turn", "mirror"] : List Str), PyData.strOk s = true := by decide +kernel
  refine h _ ?_
  cases o <;> (unfold SOp.word; simp)
theorem sh_ops (ops : List SOp) : Sh 2 (opsD ops) := sh_list fun d hd => by
  obtain ⟨o, _, rfl⟩ := List.mem_map.mp hd
  refine sh_tuple (n := 0) fun e he => ?_
  rcases List.mem_cons.mp he with rfl | he
  · exact sh_str (word_ok o)
  · obtain ⟨i, _, rfl⟩ := List.mem_map.mp he
    exact sh_int i
theorem word_turn {o : SOp} (h : o.word = "turn") : ∃ hh, o = .turn hh := by
  cases o with
  | turn hh => exact ⟨hh, rfl⟩
  | add => exact absurd h (by show ¬ ("add" : Str) = "turn"; decide +kernel)
  | sub => exact absurd h (by show ¬ ("subtract" : Str) = "turn"; decide +kernel)
  | meet => exact absurd h (by show ¬ ("meet" : Str) = "turn"; decide +kernel)
  | shift => exact absurd h (by show ¬ ("shift" : Str) = "turn"; decide +kernel)
  | scale => exact absurd h (by show ¬ ("scale" : Str) = "turn"; decide +kernel)
  | mir => exact absurd h (by show ¬ ("mirror" : Str) = "turn"; decide +kernel)
theorem iteStr {s t : Str} {A B : Prop} (h1 : s = t → A) (h2 : s ≠ t → B) : if decide (V.str s = V.str t) = true then A else B := by
  by_cases h : s = t
  · rw [if_pos (by simp [h])]; exact h1 h
  · rw [if_neg (by simp [h])]; exact h2 h
theorem neS {s t : Str} {A B : Prop} (h1 : s ≠ t → A) (h2 : s = t → B) : if (!decide (V.str s = V.str t)) = true then A else B := by
  by_cases h : s = t
  · rw [if_neg (by simp [h])]; exact h2 h
  · rw [if_pos (by simp [h])]; exact h1 h
theorem Grows.skip {K : PySem.W.Frag} {H U H' : Hp} {p : Addr} {ads : List Addr} {ops : List SOp} (g : Grows K H U H' p ads ops) {q : Addr} (hq : H' q = none) (u : HO) : Grows K H U (upd H' q u) p ads ops :=
  ⟨g.s, g.sH.trans (same_upd hq), g.n, same_upd hq _ _ g.e, g.at_⟩
theorem sc_law : FnScope ["script", "first", "steps", "comb", "k", "step", "region", "fault", "before", "told"] ["script"] (defScope s_law) := ⟨rfl, rfl, rfl, by decide +kernel, rfl, by decide +kernel, by decide +kernel⟩
set_option maxHeartbeats 4000000 in
theorem ok_law (T : Txt K mg A) : FnOk P w K mg base CX0 9 A.flaw A.dlaw ["script"] (sp_law K) := by
  refine T.Flaw.ok sc_law (fun vs H Q E h => ?_) (fun cdv Ar outer s H vs Q E hr h => ?_)
  · obtain ⟨a, ns, rfl, _⟩ := h
    rfl
  · obtain ⟨a, ns, rfl, hS, hlen, q⟩ := h
    replace q := Hid.mk q
    refine ⟨_, (pss_cons (ps_set (i := 1) sc_law.nd rfl (Or.inl rfl) (pe_call (ok__law_row T) (hr.mono (by decide)) rfl T.g_law_row T.k_law_row T.b_law_row .nil pass0 (pa_cons (pv 0) (pa_cons pe_int pa_nil))))
      (pss_cons (ps_set (i := 2) sc_law.nd rfl (Or.inl rfl) (pe_lst pa_nil))
      (pss_cons (ps_set (i := 3) sc_law.nd rfl (Or.inl rfl) (pe_cmpR op_eq (pe_op op_mod (pe_callTy call_int1 (by rfl) T.int (by decide +kernel) (pa_cons (pv 1) pa_nil)) pe_int) pe_int (nomark _)))
      (C8.pss_cut (ps_if (pt_cmpR op_eq (pe_op op_mod (pe_callTy call_int1 (by rfl) T.int (by decide +kernel) (pa_cons (pv 1) pa_nil)) pe_int) pe_int (nomark _))
      (pss_one (ps_set (i := 2) sc_law.nd rfl (Or.inl rfl) (pe_call (ok__law_far T) (hr.mono (by decide)) rfl T.g_law_far T.k_law_far T.b_law_far .nil pass0 (pa_cons (pe_op op_fdiv (pv 1) pe_int) pa_nil))))
      (pss_one (ps_if (pt_val (pv 3))
      (pss_one (ps_set (i := 2) sc_law.nd rfl (Or.inl rfl) (pe_call (ok__law_comb T) (hr.mono (by decide)) rfl T.g_law_comb T.k_law_comb T.b_law_comb .nil pass0 (pa_cons (pe_op op_fdiv (pv 1) pe_int) pa_nil))))
      pss_nil)))
      (pss_cons (ps_for PassesOwn.never rfl (pi_range2 (by rfl) T.range (pa_cons pe_int (pa_cons (pe_op op_add (pe_callB (call_min2 rfl) (by rfl) T.min (by decide +kernel) (pa_cons pe_int (pa_cons (pe_callB call_len_seq (by rfl) T.len PySem.boot_len (pa_cons (pv 0) pa_nil)) pa_nil))) pe_int) pa_nil))) (pg_name (i := 4) sc_law.nd rfl (Or.inl rfl))
      (pss_cons (ps_set (i := 5) sc_law.nd rfl (Or.inl rfl) (pe_call (ok__law_step T) (hr.mono (by decide)) rfl T.g_law_step T.k_law_step T.b_law_step .nil pass0 (pa_cons (pe_call (ok__law_row T) (hr.mono (by decide)) rfl T.g_law_row T.k_law_row T.b_law_row .nil pass0 (pa_cons (pv 0) (pa_cons (pv 4) pa_nil))) pa_nil)))
      (C8.pss_cut (ps_if (PW.pt (pw_and (pt_val (pv 3)) (pw_and1 (pt_cmpR op_eq (pe_ix (r := rIxT K) ix_tup (pv 5) pe_int (fun _ _ => rfl)) pe_str (nomark _)))))
      (pss_one (ps_set (i := 5) sc_law.nd rfl (Or.inl rfl) (pe_tup (pa_cons pe_str (pa_cons (pe_ix (r := rIxT K) ix_tup (pv 5) pe_int (fun _ _ => rfl)) pa_nil)))))
      pss_nil)
      (pss_one (ps_expr (pe_bm PySem.F.plainAttrs_list PySem.F.slot_list_append PySem.F.type_list_append mt_append (pv 2) (pa_cons (pv 5) pa_nil)))))))
      (pss_cons (ps_set (i := 6) sc_law.nd rfl (Or.inl rfl) (pe_lst pa_nil))
      (pss_cons (ps_set (i := 7) sc_law.nd rfl (Or.inl rfl) pe_str)
      (pss_cons (ps_for PassesOwn.never rfl (pi_list (pv 2)) (pg_name (i := 5) sc_law.nd rfl (Or.inl rfl))
      (pss_one (ps_if (pt_cmpR op_eq (pv 7) pe_str (nomark _))
      (pss_cons (ps_set (i := 6) sc_law.nd rfl (Or.inl rfl) (pe_call (ok__law_after T) (hr.mono (by decide)) rfl T.g_law_after T.k_law_after T.b_law_after .nil pass0 (pa_cons (pv 6) (pa_cons (pv 5) pa_nil))))
      (pss_one (ps_set (i := 7) sc_law.nd rfl (Or.inl rfl) (pe_call (ok__law_fault T) (hr.mono (by decide)) rfl T.g_law_fault T.k_law_fault T.b_law_fault .nil pass0 (pa_cons (pv 6) pa_nil)))))
      pss_nil)))
      (pss_cons (ps_set (i := 8) sc_law.nd rfl (Or.inl rfl) (pe_callTy call_list_of (by rfl) T.list (by decide +kernel) (pa_cons (pv 2) pa_nil)))
      (pss_cons (ps_set (i := 9) sc_law.nd rfl (Or.inl rfl) (pe_call (ok__law_told T) (hr.mono (by decide)) rfl T.g_law_told T.k_law_told T.b_law_told .nil pass0 (pa_cons (pv 2) pa_nil)))
      (pss_cons (ps_if (PW.pt (pw_or (pt_cmpR (op_neD hr.units) (pv 2) (pv 8) (nomark _)) (pw_or1 (pt_cmpR op_ne (pe_ix (r := rIxT K) ix_tup (pv 9) pe_int (fun _ _ => rfl)) (pv 7) (nomark _)))))
      (pss_one (ps_ret pe_bl))
      pss_nil)
      (pss_cons (ps_if (pt_cmpR op_ne (pv 7) pe_str (nomark _))
      (pss_one (ps_ret (pe_cmpR op_is_bl (pe_ix (r := rIxT K) ix_tup (pv 9) pe_int (fun _ _ => rfl)) pe_bl (nomark _))))
      pss_nil)
      (pss_one (ps_ret (pe_cmpR (op_eqD hr.units) (pe_ix (r := rIxT K) ix_tup (pv 9) pe_int (fun _ _ => rfl)) (pv 6) (nomark _)))))))))))))))), ?_⟩
    walk_at "gf"
    refine ⟨a, ns, 0, rfl, hS, ?_⟩
    have hr0 := lawRow_nn ns 0
    generalize lawRow ns 0 = first at hr0 ⊢
    walk_at "gf"
    rename_i p0 hp0
    have g0 : Grows K H H (upd H p0 (.lst [])) p0 [] [] := ⟨Same.refl _, same_upd hp0, hp0, upd_same, StepsAt.nil⟩
    generalize decide (V.int (first % 15) = V.int 2) = cb
    generalize upd H p0 (.lst []) = H1 at g0 ⊢
    refine ⟨fun σ' H' => ∃ (U : Hp) (p : Addr) (ads : List Addr) (ops : List SOp), σ' = [some (.ref a), some (.int first), some (.ref p), some (.bl cb), none, none, none, none, none, none] ∧ Grows K H U H' p ads ops ∧ PreC cb ops, ?_, ?_⟩
    · walk_at "gf"
      refine iteEq (fun c => ?_) (fun c => ?_)
      · walk_at "gf"
        intro p ads ops U H' s1 s2 n e at_ hl hr ok
        exact ⟨U, p, ads, ops, rfl, ⟨g0.sH.trans s1, s2, n, e, at_⟩, .inr ⟨hl, hr, ok⟩⟩
      · walk_at "gf"
        refine if_b (fun hb => ?_) (fun hb => ?_)
        · walk_at "gf"
          intro p ads ops U H' g hl hne hc
          exact ⟨U, p, ads, ops, rfl, ⟨g0.sH.trans g.s, g.sH, g.n, g.e, g.at_⟩, .inl ⟨hb, hne, hl, hc⟩⟩
        · exact ⟨H, p0, [], [], rfl, g0, .inr ⟨by decide, by decide, fun o ho => (by cases ho)⟩⟩
    · rintro σ' H2 ⟨U, p, ads, ops, rfl, g, hp⟩
      clear g0 hp0
      have hs2 := g.sH.seq (g.s.seq hS)
      walk_at "gf"
      walk_at "go"
      rw [List.length_map]
      refine ⟨⟨by decide, by decide, by split <;> omega, by split <;> omega⟩, ?_⟩
      refine for_range (lo := 1) (fun i σ H' => ∃ (U : Hp) (ads : List Addr) (more : List SOp) (v4 v5 : Option V), σ = [some (.ref a), some (.int first), some (.ref p), some (.bl cb), v4, v5, none, none, none, none] ∧ Grows K H U H' p ads (ops ++ more) ∧ more.length = i ∧ (∀ o ∈ more, o.ok) ∧ (cb = true → ∀ o ∈ more, o.isTurn = false))
        ⟨U, ads, [], _, _, rfl, by rw [List.append_nil]; exact g, rfl, fun o ho => (by cases ho), fun _ o ho => (by cases ho)⟩ ?_ ?_
      · clear g hs2
        rintro i σ H5 hi ⟨U, ads, more, v4, v5, rfl, g, hl, hok, hnt⟩
        have hi20 : i < 20 := by
          split at hi <;> omega
        have hs2 := g.sH.seq (g.s.seq hS)
        walk_at "gf"
        walk_at "go"
        refine ⟨a, ns, 1 + i, by rw [Int.natCast_add]; rfl, hs2, ?_⟩
        have hr1 := lawRow_nn ns (1 + i)
        generalize lawRow ns (1 + i) = row at hr1 ⊢
        clear hs2
        walk_at "gf"
        intro sp o hsp ok
        have hq : (upd H5 sp (.tup o.vs)) sp = some (.tup o.vs) := upd_same
        refine ⟨fun σ' H' => ∃ (st : Addr) (o' : SOp) (Hx : Hp), σ' = [some (.ref a), some (.int first), some (.ref p), some (.bl cb), some (.int (1 + (i : Int))), some (.ref st), none, none, none, none] ∧ H' = upd Hx st (.tup o'.vs) ∧ Hx st = none ∧ Grows K H U Hx p ads (ops ++ more) ∧ o'.ok ∧ (cb = true → o'.isTurn = false), ?_, ?_⟩
        · walk_at "gf"
          refine if_b (fun hb => ?_) (fun hb => ?_)
          · refine ⟨_, rfl, sp, _, 0, _, rfl, rfl, SqT.of hq, atI_nat (j := 0) rfl, ?_⟩
            walk_at "gf"
            refine iteStr (fun c => ?_) (fun c => ?_)
            · obtain ⟨hh, rfl⟩ := word_turn c
              replace hq : (upd H5 sp (.tup (SOp.turn hh).vs)) sp = some (.tup [.str "turn", .int hh]) := hq
              walk_at "gf"
              rename_i pn hpn
              exact ⟨pn, .mir hh, _, rfl, rfl, hpn, g.skip hsp _, trivial, fun _ => rfl⟩
            · exact ⟨sp, o, H5, rfl, rfl, hsp, g, ok, fun _ => by cases o <;> first | rfl | exact absurd rfl c⟩
          · exact ⟨sp, o, H5, rfl, rfl, hsp, g, ok, fun z => (by rw [hb] at z; cases z)⟩
        · rintro σ' H6 ⟨st, o', Hx, rfl, rfl, hst, g', ok', nt'⟩
          clear g hsp hq ok
          have hpq : p ≠ st := fun z => by have := g'.e; rw [z, hst] at this; cases this
          have hal := g'.len
          have hpl : (ops ++ more).length < 1000 := (fits_law hp (by omega) hok hnt).2
          walk_at "gf"
          refine ⟨.inl ⟨rfl, _, SqL.of ((upd_ne hpq).trans g'.e)⟩, ?_⟩
          walk_at "gf"
          walk_at "nl"
          refine ⟨p, _, _, rfl, rfl, (upd_ne hpq).trans g'.e, lt_line (by rw [List.length_map]; omega), ?_⟩
          have g2 := g'.snoc hst o'
          rw [List.append_assoc] at g2
          refine ⟨_, _, _, _, _, rfl, g2, by rw [List.length_append, hl]; rfl, fun q hq => ?_, fun hc q hq => ?_⟩
          · rcases List.mem_append.mp hq with hq | hq
            · exact hok q hq
            · obtain rfl := List.mem_singleton.mp hq; exact ok'
          · rcases List.mem_append.mp hq with hq | hq
            · exact hnt hc q hq
            · obtain rfl := List.mem_singleton.mp hq; exact nt' hc
      · clear g hs2
        rintro σ H5 ⟨U, ads, more, v4, v5, rfl, g, hl, hok, hnt⟩
        have hl20 : more.length ≤ 20 := by
          rw [hl]; split <;> omega
        have hF := fits_law hp hl20 hok hnt
        generalize ops ++ more = ops at g hF
        clear hp hl hok hnt hl20
        walk_at "gf"
        rename_i pr hpr
        have g1 := g.skip hpr (.lst [])
        have er : (upd H5 pr (.lst [])) pr = some (.lst []) := upd_same
        generalize upd H5 pr (.lst []) = H6 at g1 er ⊢
        clear g hpr
        have hal := g1.len
        refine ⟨⟨_, SqL.of g1.e⟩, for_list (K := K) (a := p) (xs := ads.map V.ref) (fun i σ H' => ∃ (v : V) (R : List Band) (j : Nat) (X Y : List Int) (v4 v5 : Option V), σ = [some (.ref a), some (.int first), some (.ref p), some (.bl cb), v4, v5, some v, some (.str (flt R)), none, none] ∧ Same H6 H' ∧ Dp K H' v (regD R) ∧ j ≤ i ∧ j ≤ ops.length ∧ Tr (ops.take j) R ∧ (flt R ≠ "" ∨ j = i) ∧ RegIn X Y R ∧ small2 X Y ∧ Fits X Y (ops.drop j))
          ⟨.ref pr, [], 0, [], [], _, _, rfl, Same.refl _, Dp.lst (SqL.of er) .nil, Nat.le_refl _, Nat.zero_le _, .nil, .inr rfl, RegIn.nil [] [], ⟨by decide, by decide⟩, hF.1⟩ (fun i σ H' _ hh => ?_) ?_ ?_⟩
        · obtain ⟨_, _, _, _, _, _, _, _, s, _⟩ := hh
          exact s.seq (SqL.of g1.e)
        · rintro i x σ H7 hx ⟨v, R, j, X, Y, v4, v5, rfl, s7, dv, hji, hjl, tr, hst, hR, sm, hf⟩
          rw [List.getElem?_map] at hx
          obtain ⟨sa, hsa, rfl⟩ := Option.map_eq_some_iff.mp hx
          have hio : i < ops.length := by have := (List.getElem?_eq_some_iff.mp hsa).1; omega
          walk_at "gf"
          refine iteStr (fun c => ?_) (fun c => ?_)
          · have hj : j = i := hst.resolve_left (fun z => z c)
            subst hj
            have ho := List.getElem?_eq_getElem hio
            generalize ops[j] = o at ho
            have hso := s7.sqt (g1.sH.sqt (g1.at_.at_ j sa o hsa ho))
            rw [drop_head ho] at hf
            obtain ⟨ok, ht, X', Y', hx', hy', sm', hf'⟩ := hf
            walk_at "gf"
            refine ⟨v, sa, o, R, X, Y, X', Y', rfl, dv, hso, hR, sm, ok, ht, hx', hy', sm', fun v' R' H8 s8 d8 st8 hR8 => ?_⟩
            have tr2 : Tr (ops.take (j + 1)) R' := by rw [take_last ho]; exact .snoc tr c st8
            have s78 := s7.trans s8
            clear dv hso tr st8
            walk_at "gf"
            refine ⟨v', R', rfl, d8, hR8.ok sm'.1 sm'.2, fun H9 s9 => ?_⟩
            exact ⟨v', R', j + 1, X', Y', _, _, rfl, s78.trans s9, d8.to s9, Nat.le_refl _, hio, tr2, .inr rfl, hR8, sm', hf'⟩
          · exact ⟨v, R, j, X, Y, _, _, rfl, s7, dv, by omega, hjl, tr, .inl c, hR, sm, hf⟩
        · rintro σ H7 ⟨v, R, j, X, Y, v4, v5, rfl, s7, dv, hji, hjl, tr, hst, hR, sm, hf⟩
          rw [List.length_map, hal] at hst
          walk_at "gf"
          walk_at "go"
          refine ⟨p, _, rfl, .inl (s7.seq (SqL.of g1.e)), fun lb hlb => ?_⟩
          have s8 := s7.trans (same_upd (o := .lst (ads.map V.ref)) hlb)
          have eb : (upd H7 lb (.lst (ads.map V.ref))) lb = some (.lst (ads.map V.ref)) := upd_same
          have dv8 := dv.to (same_upd (o := .lst (ads.map V.ref)) hlb)
          generalize upd H7 lb (.lst (ads.map V.ref)) = H8 at s8 eb dv8 ⊢
          clear dv s7 hlb
          have ep8 : H8 p = some (.lst (ads.map V.ref)) := s8 _ _ g1.e
          have S8 : StepsAt K H8 ads ops := (g1.at_.to g1.sH).to s8
          walk_at "gf"
          refine ⟨p, ads, ops, rfl, SqL.of ep8, S8, hF.2, hF.1, fun j' R' hj' tr' f' tp H9 s9 et => ?_, fun R' v' tp H9 s9 tr' f' dv' et => ?_⟩
          · obtain ⟨_, rfl⟩ := Tr.stop hj' hjl tr' tr (.inl f') hst
            have d1 : Dp K H9 (.ref p) (opsD ops) := Dp.lst (SqL.of (s9 _ _ ep8)) (stepsAt_dp hal (S8.to s9).at_)
            have d2 : Dp K H9 (.ref lb) (opsD ops) := Dp.lst (SqL.of (s9 _ _ eb)) (stepsAt_dp hal (S8.to s9).at_)
            walk_at "gf"
            refine t_ne d1 d2 (sh_ops _).shaped (sh_ops _).shaped ?_
            rw [(sh_ops _).self]
            refine ⟨false, rfl, if_f rfl ?_⟩
            walk_at "gf"
            refine neS (fun c => absurd rfl c) (fun _ => ?_)
            walk_at "gf"
            refine neS (fun _ => ?_) (fun c => absurd c f')
            walk_at "gf"
            exact q.go _
          · obtain ⟨_, rfl⟩ := Tr.stop (Nat.le_refl _) hjl (by rw [List.take_length]; exact tr') tr (.inr rfl) hst
            have d1 : Dp K H9 (.ref p) (opsD ops) := Dp.lst (SqL.of (s9 _ _ ep8)) (stepsAt_dp hal (S8.to s9).at_)
            have d2 : Dp K H9 (.ref lb) (opsD ops) := Dp.lst (SqL.of (s9 _ _ eb)) (stepsAt_dp hal (S8.to s9).at_)
            walk_at "gf"
            refine t_ne d1 d2 (sh_ops _).shaped (sh_ops _).shaped ?_
            rw [(sh_ops _).self]
            refine ⟨false, rfl, if_f rfl ?_⟩
            walk_at "gf"
            refine neS (fun c => absurd f'.symm c) (fun _ => ?_)
            walk_at "gf"
            refine neS (fun c => absurd f' c) (fun _ => ?_)
            walk_at "gf"
            refine t_eq dv' (dv8.to s9) (sh_reg _).shaped (sh_reg _).shaped ?_
            rw [(sh_reg _).self]
            exact q.go _
end
theorem all_mk {K : PySem.W.Frag} {h : Heap} {mg : Str → Option Value} {fa : Addr} (X : K.In h) (G : h.Ns mainGlobals mg) (hfa : mg "law" = some (.ref fa))
    {frectangle_region : Addr} {od1 an1 : Option Addr} {sl1 : Array (Option Value)} {oc1 kV1 dc1 pm1 cd1 ct1 : Value}
    {funited : Addr} {od2 an2 : Option Addr} {sl2 : Array (Option Value)} {oc2 kV2 dc2 pm2 cd2 ct2 : Value}
    {fcommon : Addr} {od3 an3 : Option Addr} {sl3 : Array (Option Value)} {oc3 kV3 dc3 pm3 cd3 ct3 : Value}
    {fwithout : Addr} {od4 an4 : Option Addr} {sl4 : Array (Option Value)} {oc4 kV4 dc4 pm4 cd4 ct4 : Value}
    {fshifted : Addr} {od5 an5 : Option Addr} {sl5 : Array (Option Value)} {oc5 kV5 dc5 pm5 cd5 ct5 : Value}
    {fscaled : Addr} {od6 an6 : Option Addr} {sl6 : Array (Option Value)} {oc6 kV6 dc6 pm6 cd6 ct6 : Value}
    {fturned : Addr} {od7 an7 : Option Addr} {sl7 : Array (Option Value)} {oc7 kV7 dc7 pm7 cd7 ct7 : Value}
    {fmirrored : Addr} {od8 an8 : Option Addr} {sl8 : Array (Option Value)} {oc8 kV8 dc8 pm8 cd8 ct8 : Value}
    {frectangles : Addr} {od9 an9 : Option Addr} {sl9 : Array (Option Value)} {oc9 kV9 dc9 pm9 cd9 ct9 : Value}
    {f_either : Addr} {od10 an10 : Option Addr} {sl10 : Array (Option Value)} {oc10 kV10 dc10 pm10 cd10 ct10 : Value}
    {f_first_alone : Addr} {od11 an11 : Option Addr} {sl11 : Array (Option Value)} {oc11 kV11 dc11 pm11 cd11 ct11 : Value}
    {f_combined : Addr} {od12 an12 : Option Addr} {sl12 : Array (Option Value)} {oc12 kV12 dc12 pm12 cd12 ct12 : Value}
    {f_combined_spans : Addr} {od13 an13 : Option Addr} {sl13 : Array (Option Value)} {oc13 kV13 dc13 pm13 cd13 ct13 : Value}
    {f_common_spans : Addr} {od14 an14 : Option Addr} {sl14 : Array (Option Value)} {oc14 kV14 dc14 pm14 cd14 ct14 : Value}
    {f_spans_of : Addr} {od15 an15 : Option Addr} {sl15 : Array (Option Value)} {oc15 kV15 dc15 pm15 cd15 ct15 : Value}
    {f_pieces : Addr} {od16 an16 : Option Addr} {sl16 : Array (Option Value)} {oc16 kV16 dc16 pm16 cd16 ct16 : Value}
    {f_first_ending_behind : Addr} {od17 an17 : Option Addr} {sl17 : Array (Option Value)} {oc17 kV17 dc17 pm17 cd17 ct17 : Value}
    {f_row_from : Addr} {od18 an18 : Option Addr} {sl18 : Array (Option Value)} {oc18 kV18 dc18 pm18 cd18 ct18 : Value}
    {f_joined : Addr} {od19 an19 : Option Addr} {sl19 : Array (Option Value)} {oc19 kV19 dc19 pm19 cd19 ct19 : Value}
    {f_column_marks : Addr} {od20 an20 : Option Addr} {sl20 : Array (Option Value)} {oc20 kV20 dc20 pm20 cd20 ct20 : Value}
    {fregion_of : Addr} {od21 an21 : Option Addr} {sl21 : Array (Option Value)} {oc21 kV21 dc21 pm21 cd21 ct21 : Value}
    {f_after_step : Addr} {od22 an22 : Option Addr} {sl22 : Array (Option Value)} {oc22 kV22 dc22 pm22 cd22 ct22 : Value}
    {f_check : Addr} {od23 an23 : Option Addr} {sl23 : Array (Option Value)} {oc23 kV23 dc23 pm23 cd23 ct23 : Value}
    {f_is_far : Addr} {od24 an24 : Option Addr} {sl24 : Array (Option Value)} {oc24 kV24 dc24 pm24 cd24 ct24 : Value}
    {f_law_cell : Addr} {od25 an25 : Option Addr} {sl25 : Array (Option Value)} {oc25 kV25 dc25 pm25 cd25 ct25 : Value}
    {f_law_row : Addr} {od26 an26 : Option Addr} {sl26 : Array (Option Value)} {oc26 kV26 dc26 pm26 cd26 ct26 : Value}
    {f_law_step : Addr} {od27 an27 : Option Addr} {sl27 : Array (Option Value)} {oc27 kV27 dc27 pm27 cd27 ct27 : Value}
    {f_law_far : Addr} {od28 an28 : Option Addr} {sl28 : Array (Option Value)} {oc28 kV28 dc28 pm28 cd28 ct28 : Value}
    {f_law_comb : Addr} {od29 an29 : Option Addr} {sl29 : Array (Option Value)} {oc29 kV29 dc29 pm29 cd29 ct29 : Value}
    {f_law_after : Addr} {od30 an30 : Option Addr} {sl30 : Array (Option Value)} {oc30 kV30 dc30 pm30 cd30 ct30 : Value}
    {f_law_fault : Addr} {od31 an31 : Option Addr} {sl31 : Array (Option Value)} {oc31 kV31 dc31 pm31 cd31 ct31 : Value}
    {f_law_told : Addr} {od32 an32 : Option Addr} {sl32 : Array (Option Value)} {oc32 kV32 dc32 pm32 cd32 ct32 : Value}
    {flaw : Addr} {od33 an33 : Option Addr} {sl33 : Array (Option Value)} {oc33 kV33 dc33 pm33 cd33 ct33 : Value}
    {tFARTHEST : Tok}
    {tMOST_RECTANGLES : Tok}
    {CDisplayError : Addr}
    {CRegionTooLarge : Addr}
    {CRegionTooComplex : Addr}
    (a1 : PySem.W.nsIn K mainGlobals "rectangle_region" = some (some (.ref frectangle_region)))
    (l1 : K.lookup frectangle_region = some ⟨oc1, od1, .func (PySem.W.fnOf "rectangle_region" "rectangle_region" (defArgs s_rectangle_region) (defBody s_rectangle_region) (defScope s_rectangle_region) .none kV1 dc1 pm1 an1 cd1 ct1), sl1⟩) (c1 : PySem.W.codeIn K cd1 "rectangle_region" = true) (k1 : PySem.W.keepIn K (.ref frectangle_region) = true)
    (a2 : PySem.W.nsIn K mainGlobals "united" = some (some (.ref funited)))
    (l2 : K.lookup funited = some ⟨oc2, od2, .func (PySem.W.fnOf "united" "united" (defArgs s_united) (defBody s_united) (defScope s_united) .none kV2 dc2 pm2 an2 cd2 ct2), sl2⟩) (c2 : PySem.W.codeIn K cd2 "united" = true) (k2 : PySem.W.keepIn K (.ref funited) = true)
    (a3 : PySem.W.nsIn K mainGlobals "common" = some (some (.ref fcommon)))
    (l3 : K.lookup fcommon = some ⟨oc3, od3, .func (PySem.W.fnOf "common" "common" (defArgs s_common) (defBody s_common) (defScope s_common) .none kV3 dc3 pm3 an3 cd3 ct3), sl3⟩) (c3 : PySem.W.codeIn K cd3 "common" = true) (k3 : PySem.W.keepIn K (.ref fcommon) = true)
    (a4 : PySem.W.nsIn K mainGlobals "without" = some (some (.ref fwithout)))
    (l4 : K.lookup fwithout = some ⟨oc4, od4, .func (PySem.W.fnOf "without" "without" (defArgs s_without) (defBody s_without) (defScope s_without) .none kV4 dc4 pm4 an4 cd4 ct4), sl4⟩) (c4 : PySem.W.codeIn K cd4 "without" = true) (k4 : PySem.W.keepIn K (.ref fwithout) = true)
    (a5 : PySem.W.nsIn K mainGlobals "shifted" = some (some (.ref fshifted)))
    (l5 : K.lookup fshifted = some ⟨oc5, od5, .func (PySem.W.fnOf "shifted" "shifted" (defArgs s_shifted) (defBody s_shifted) (defScope s_shifted) .none kV5 dc5 pm5 an5 cd5 ct5), sl5⟩) (c5 : PySem.W.codeIn K cd5 "shifted" = true) (k5 : PySem.W.keepIn K (.ref fshifted) = true)
    (a6 : PySem.W.nsIn K mainGlobals "scaled" = some (some (.ref fscaled)))
    (l6 : K.lookup fscaled = some ⟨oc6, od6, .func (PySem.W.fnOf "scaled" "scaled" (defArgs s_scaled) (defBody s_scaled) (defScope s_scaled) .none kV6 dc6 pm6 an6 cd6 ct6), sl6⟩) (c6 : PySem.W.codeIn K cd6 "scaled" = true) (k6 : PySem.W.keepIn K (.ref fscaled) = true)
    (a7 : PySem.W.nsIn K mainGlobals "turned" = some (some (.ref fturned)))
    (l7 : K.lookup fturned = some ⟨oc7, od7, .func (PySem.W.fnOf "turned" "turned" (defArgs s_turned) (defBody s_turned) (defScope s_turned) .none kV7 dc7 pm7 an7 cd7 ct7), sl7⟩) (c7 : PySem.W.codeIn K cd7 "turned" = true) (k7 : PySem.W.keepIn K (.ref fturned) = true)
    (a8 : PySem.W.nsIn K mainGlobals "mirrored" = some (some (.ref fmirrored)))
    (l8 : K.lookup fmirrored = some ⟨oc8, od8, .func (PySem.W.fnOf "mirrored" "mirrored" (defArgs s_mirrored) (defBody s_mirrored) (defScope s_mirrored) .none kV8 dc8 pm8 an8 cd8 ct8), sl8⟩) (c8 : PySem.W.codeIn K cd8 "mirrored" = true) (k8 : PySem.W.keepIn K (.ref fmirrored) = true)
    (a9 : PySem.W.nsIn K mainGlobals "rectangles" = some (some (.ref frectangles)))
    (l9 : K.lookup frectangles = some ⟨oc9, od9, .func (PySem.W.fnOf "rectangles" "rectangles" (defArgs s_rectangles) (defBody s_rectangles) (defScope s_rectangles) .none kV9 dc9 pm9 an9 cd9 ct9), sl9⟩) (c9 : PySem.W.codeIn K cd9 "rectangles" = true) (k9 : PySem.W.keepIn K (.ref frectangles) = true)
    (a10 : PySem.W.nsIn K mainGlobals "_either" = some (some (.ref f_either)))
    (l10 : K.lookup f_either = some ⟨oc10, od10, .func (PySem.W.fnOf "_either" "_either" (defArgs s__either) (defBody s__either) (defScope s__either) .none kV10 dc10 pm10 an10 cd10 ct10), sl10⟩) (c10 : PySem.W.codeIn K cd10 "_either" = true) (k10 : PySem.W.keepIn K (.ref f_either) = true)
    (a11 : PySem.W.nsIn K mainGlobals "_first_alone" = some (some (.ref f_first_alone)))
    (l11 : K.lookup f_first_alone = some ⟨oc11, od11, .func (PySem.W.fnOf "_first_alone" "_first_alone" (defArgs s__first_alone) (defBody s__first_alone) (defScope s__first_alone) .none kV11 dc11 pm11 an11 cd11 ct11), sl11⟩) (c11 : PySem.W.codeIn K cd11 "_first_alone" = true) (k11 : PySem.W.keepIn K (.ref f_first_alone) = true)
    (a12 : PySem.W.nsIn K mainGlobals "_combined" = some (some (.ref f_combined)))
    (l12 : K.lookup f_combined = some ⟨oc12, od12, .func (PySem.W.fnOf "_combined" "_combined" (defArgs s__combined) (defBody s__combined) (defScope s__combined) .none kV12 dc12 pm12 an12 cd12 ct12), sl12⟩) (c12 : PySem.W.codeIn K cd12 "_combined" = true) (k12 : PySem.W.keepIn K (.ref f_combined) = true)
    (a13 : PySem.W.nsIn K mainGlobals "_combined_spans" = some (some (.ref f_combined_spans)))
    (l13 : K.lookup f_combined_spans = some ⟨oc13, od13, .func (PySem.W.fnOf "_combined_spans" "_combined_spans" (defArgs s__combined_spans) (defBody s__combined_spans) (defScope s__combined_spans) .none kV13 dc13 pm13 an13 cd13 ct13), sl13⟩) (c13 : PySem.W.codeIn K cd13 "_combined_spans" = true) (k13 : PySem.W.keepIn K (.ref f_combined_spans) = true)
    (a14 : PySem.W.nsIn K mainGlobals "_common_spans" = some (some (.ref f_common_spans)))
    (l14 : K.lookup f_common_spans = some ⟨oc14, od14, .func (PySem.W.fnOf "_common_spans" "_common_spans" (defArgs s__common_spans) (defBody s__common_spans) (defScope s__common_spans) .none kV14 dc14 pm14 an14 cd14 ct14), sl14⟩) (c14 : PySem.W.codeIn K cd14 "_common_spans" = true) (k14 : PySem.W.keepIn K (.ref f_common_spans) = true)
    (a15 : PySem.W.nsIn K mainGlobals "_spans_of" = some (some (.ref f_spans_of)))
    (l15 : K.lookup f_spans_of = some ⟨oc15, od15, .func (PySem.W.fnOf "_spans_of" "_spans_of" (defArgs s__spans_of) (defBody s__spans_of) (defScope s__spans_of) .none kV15 dc15 pm15 an15 cd15 ct15), sl15⟩) (c15 : PySem.W.codeIn K cd15 "_spans_of" = true) (k15 : PySem.W.keepIn K (.ref f_spans_of) = true)
    (a16 : PySem.W.nsIn K mainGlobals "_pieces" = some (some (.ref f_pieces)))
    (l16 : K.lookup f_pieces = some ⟨oc16, od16, .func (PySem.W.fnOf "_pieces" "_pieces" (defArgs s__pieces) (defBody s__pieces) (defScope s__pieces) .none kV16 dc16 pm16 an16 cd16 ct16), sl16⟩) (c16 : PySem.W.codeIn K cd16 "_pieces" = true) (k16 : PySem.W.keepIn K (.ref f_pieces) = true)
    (a17 : PySem.W.nsIn K mainGlobals "_first_ending_behind" = some (some (.ref f_first_ending_behind)))
    (l17 : K.lookup f_first_ending_behind = some ⟨oc17, od17, .func (PySem.W.fnOf "_first_ending_behind" "_first_ending_behind" (defArgs s__first_ending_behind) (defBody s__first_ending_behind) (defScope s__first_ending_behind) .none kV17 dc17 pm17 an17 cd17 ct17), sl17⟩) (c17 : PySem.W.codeIn K cd17 "_first_ending_behind" = true) (k17 : PySem.W.keepIn K (.ref f_first_ending_behind) = true)
    (a18 : PySem.W.nsIn K mainGlobals "_row_from" = some (some (.ref f_row_from)))
    (l18 : K.lookup f_row_from = some ⟨oc18, od18, .func (PySem.W.fnOf "_row_from" "_row_from" (defArgs s__row_from) (defBody s__row_from) (defScope s__row_from) .none kV18 dc18 pm18 an18 cd18 ct18), sl18⟩) (c18 : PySem.W.codeIn K cd18 "_row_from" = true) (k18 : PySem.W.keepIn K (.ref f_row_from) = true)
    (a19 : PySem.W.nsIn K mainGlobals "_joined" = some (some (.ref f_joined)))
    (l19 : K.lookup f_joined = some ⟨oc19, od19, .func (PySem.W.fnOf "_joined" "_joined" (defArgs s__joined) (defBody s__joined) (defScope s__joined) .none kV19 dc19 pm19 an19 cd19 ct19), sl19⟩) (c19 : PySem.W.codeIn K cd19 "_joined" = true) (k19 : PySem.W.keepIn K (.ref f_joined) = true)
    (a20 : PySem.W.nsIn K mainGlobals "_column_marks" = some (some (.ref f_column_marks)))
    (l20 : K.lookup f_column_marks = some ⟨oc20, od20, .func (PySem.W.fnOf "_column_marks" "_column_marks" (defArgs s__column_marks) (defBody s__column_marks) (defScope s__column_marks) .none kV20 dc20 pm20 an20 cd20 ct20), sl20⟩) (c20 : PySem.W.codeIn K cd20 "_column_marks" = true) (k20 : PySem.W.keepIn K (.ref f_column_marks) = true)
    (a21 : PySem.W.nsIn K mainGlobals "region_of" = some (some (.ref fregion_of)))
    (l21 : K.lookup fregion_of = some ⟨oc21, od21, .func (PySem.W.fnOf "region_of" "region_of" (defArgs s_region_of) (defBody s_region_of) (defScope s_region_of) .none kV21 dc21 pm21 an21 cd21 ct21), sl21⟩) (c21 : PySem.W.codeIn K cd21 "region_of" = true) (k21 : PySem.W.keepIn K (.ref fregion_of) = true)
    (a22 : PySem.W.nsIn K mainGlobals "_after_step" = some (some (.ref f_after_step)))
    (l22 : K.lookup f_after_step = some ⟨oc22, od22, .func (PySem.W.fnOf "_after_step" "_after_step" (defArgs s__after_step) (defBody s__after_step) (defScope s__after_step) .none kV22 dc22 pm22 an22 cd22 ct22), sl22⟩) (c22 : PySem.W.codeIn K cd22 "_after_step" = true) (k22 : PySem.W.keepIn K (.ref f_after_step) = true)
    (a23 : PySem.W.nsIn K mainGlobals "_check" = some (some (.ref f_check)))
    (l23 : K.lookup f_check = some ⟨oc23, od23, .func (PySem.W.fnOf "_check" "_check" (defArgs s__check) (defBody s__check) (defScope s__check) .none kV23 dc23 pm23 an23 cd23 ct23), sl23⟩) (c23 : PySem.W.codeIn K cd23 "_check" = true) (k23 : PySem.W.keepIn K (.ref f_check) = true)
    (a24 : PySem.W.nsIn K mainGlobals "_is_far" = some (some (.ref f_is_far)))
    (l24 : K.lookup f_is_far = some ⟨oc24, od24, .func (PySem.W.fnOf "_is_far" "_is_far" (defArgs s__is_far) (defBody s__is_far) (defScope s__is_far) .none kV24 dc24 pm24 an24 cd24 ct24), sl24⟩) (c24 : PySem.W.codeIn K cd24 "_is_far" = true) (k24 : PySem.W.keepIn K (.ref f_is_far) = true)
    (a25 : PySem.W.nsIn K mainGlobals "_law_cell" = some (some (.ref f_law_cell)))
    (l25 : K.lookup f_law_cell = some ⟨oc25, od25, .func (PySem.W.fnOf "_law_cell" "_law_cell" (defArgs s__law_cell) (defBody s__law_cell) (defScope s__law_cell) .none kV25 dc25 pm25 an25 cd25 ct25), sl25⟩) (c25 : PySem.W.codeIn K cd25 "_law_cell" = true) (k25 : PySem.W.keepIn K (.ref f_law_cell) = true)
    (a26 : PySem.W.nsIn K mainGlobals "_law_row" = some (some (.ref f_law_row)))
    (l26 : K.lookup f_law_row = some ⟨oc26, od26, .func (PySem.W.fnOf "_law_row" "_law_row" (defArgs s__law_row) (defBody s__law_row) (defScope s__law_row) .none kV26 dc26 pm26 an26 cd26 ct26), sl26⟩) (c26 : PySem.W.codeIn K cd26 "_law_row" = true) (k26 : PySem.W.keepIn K (.ref f_law_row) = true)
    (a27 : PySem.W.nsIn K mainGlobals "_law_step" = some (some (.ref f_law_step)))
    (l27 : K.lookup f_law_step = some ⟨oc27, od27, .func (PySem.W.fnOf "_law_step" "_law_step" (defArgs s__law_step) (defBody s__law_step) (defScope s__law_step) .none kV27 dc27 pm27 an27 cd27 ct27), sl27⟩) (c27 : PySem.W.codeIn K cd27 "_law_step" = true) (k27 : PySem.W.keepIn K (.ref f_law_step) = true)
    (a28 : PySem.W.nsIn K mainGlobals "_law_far" = some (some (.ref f_law_far)))
    (l28 : K.lookup f_law_far = some ⟨oc28, od28, .func (PySem.W.fnOf "_law_far" "_law_far" (defArgs s__law_far) (defBody s__law_far) (defScope s__law_far) .none kV28 dc28 pm28 an28 cd28 ct28), sl28⟩) (c28 : PySem.W.codeIn K cd28 "_law_far" = true) (k28 : PySem.W.keepIn K (.ref f_law_far) = true)
    (a29 : PySem.W.nsIn K mainGlobals "_law_comb" = some (some (.ref f_law_comb)))
    (l29 : K.lookup f_law_comb = some ⟨oc29, od29, .func (PySem.W.fnOf "_law_comb" "_law_comb" (defArgs s__law_comb) (defBody s__law_comb) (defScope s__law_comb) .none kV29 dc29 pm29 an29 cd29 ct29), sl29⟩) (c29 : PySem.W.codeIn K cd29 "_law_comb" = true) (k29 : PySem.W.keepIn K (.ref f_law_comb) = true)
    (a30 : PySem.W.nsIn K mainGlobals "_law_after" = some (some (.ref f_law_after)))
    (l30 : K.lookup f_law_after = some ⟨oc30, od30, .func (PySem.W.fnOf "_law_after" "_law_after" (defArgs s__law_after) (defBody s__law_after) (defScope s__law_after) .none kV30 dc30 pm30 an30 cd30 ct30), sl30⟩) (c30 : PySem.W.codeIn K cd30 "_law_after" = true) (k30 : PySem.W.keepIn K (.ref f_law_after) = true)
    (a31 : PySem.W.nsIn K mainGlobals "_law_fault" = some (some (.ref f_law_fault)))
    (l31 : K.lookup f_law_fault = some ⟨oc31, od31, .func (PySem.W.fnOf "_law_fault" "_law_fault" (defArgs s__law_fault) (defBody s__law_fault) (defScope s__law_fault) .none kV31 dc31 pm31 an31 cd31 ct31), sl31⟩) (c31 : PySem.W.codeIn K cd31 "_law_fault" = true) (k31 : PySem.W.keepIn K (.ref f_law_fault) = true)
    (a32 : PySem.W.nsIn K mainGlobals "_law_told" = some (some (.ref f_law_told)))
    (l32 : K.lookup f_law_told = some ⟨oc32, od32, .func (PySem.W.fnOf "_law_told" "_law_told" (defArgs s__law_told) (defBody s__law_told) (defScope s__law_told) .none kV32 dc32 pm32 an32 cd32 ct32), sl32⟩) (c32 : PySem.W.codeIn K cd32 "_law_told" = true) (k32 : PySem.W.keepIn K (.ref f_law_told) = true)
    (a33 : PySem.W.nsIn K mainGlobals "law" = some (some (.ref flaw)))
    (l33 : K.lookup flaw = some ⟨oc33, od33, .func (PySem.W.fnOf "law" "law" (defArgs s_law) (defBody s_law) (defScope s_law) .none kV33 dc33 pm33 an33 cd33 ct33), sl33⟩) (c33 : PySem.W.codeIn K cd33 "law" = true) (k33 : PySem.W.keepIn K (.ref flaw) = true)
    (z_any : PySem.W.nsIn K mainGlobals "any" = some none)
    (z_int : PySem.W.nsIn K mainGlobals "int" = some none)
    (z_isinstance : PySem.W.nsIn K mainGlobals "isinstance" = some none)
    (z_len : PySem.W.nsIn K mainGlobals "len" = some none)
    (z_list : PySem.W.nsIn K mainGlobals "list" = some none)
    (z_max : PySem.W.nsIn K mainGlobals "max" = some none)
    (z_min : PySem.W.nsIn K mainGlobals "min" = some none)
    (z_range : PySem.W.nsIn K mainGlobals "range" = some none)
    (z_reversed : PySem.W.nsIn K mainGlobals "reversed" = some none)
    (z_set : PySem.W.nsIn K mainGlobals "set" = some none)
    (z_sorted : PySem.W.nsIn K mainGlobals "sorted" = some none)
    (z_tuple : PySem.W.nsIn K mainGlobals "tuple" = some none)
    (z_zip : PySem.W.nsIn K mainGlobals "zip" = some none)
    (q_FARTHEST : PySem.W.nsIn K mainGlobals "FARTHEST" = some (some (.int (1073741824) tFARTHEST)))
    (q_MOST_RECTANGLES : PySem.W.nsIn K mainGlobals "MOST_RECTANGLES" = some (some (.int (1000) tMOST_RECTANGLES)))
    (uDisplayError : PySem.W.nsIn K mainGlobals "DisplayError" = some (some (.ref CDisplayError))) (xDisplayError : PySem.W.excIn K CDisplayError [.type "ValueError", .type "Exception", .type "BaseException", .type "object"] "ValueError.__new__" = true) (keDisplayError : PySem.W.keepIn K (.ref CDisplayError) = true) (bxDisplayError : PySem.W.subIn K (.ref CDisplayError) (.type "BaseException") = some true) (txDisplayError : PySem.W.typeIn K (.ref CDisplayError) = some (.type "type")) (ixDisplayError : PySem.W.isClsIn K CDisplayError = true) (sxDisplayError : PySem.W.subIn K (.ref CDisplayError) (.ref CDisplayError) = some true)
    (uRegionTooLarge : PySem.W.nsIn K mainGlobals "RegionTooLarge" = some (some (.ref CRegionTooLarge))) (xRegionTooLarge : PySem.W.excIn K CRegionTooLarge [.type "ValueError", .type "Exception", .type "BaseException", .type "object"] "ValueError.__new__" = true) (keRegionTooLarge : PySem.W.keepIn K (.ref CRegionTooLarge) = true) (bxRegionTooLarge : PySem.W.subIn K (.ref CRegionTooLarge) (.type "BaseException") = some true) (txRegionTooLarge : PySem.W.typeIn K (.ref CRegionTooLarge) = some (.type "type")) (ixRegionTooLarge : PySem.W.isClsIn K CRegionTooLarge = true) (sxRegionTooLarge : PySem.W.subIn K (.ref CRegionTooLarge) (.ref CRegionTooLarge) = some true)
    (uRegionTooComplex : PySem.W.nsIn K mainGlobals "RegionTooComplex" = some (some (.ref CRegionTooComplex))) (xRegionTooComplex : PySem.W.excIn K CRegionTooComplex [.type "ValueError", .type "Exception", .type "BaseException", .type "object"] "ValueError.__new__" = true) (keRegionTooComplex : PySem.W.keepIn K (.ref CRegionTooComplex) = true) (bxRegionTooComplex : PySem.W.subIn K (.ref CRegionTooComplex) (.type "BaseException") = some true) (txRegionTooComplex : PySem.W.typeIn K (.ref CRegionTooComplex) = some (.type "type")) (ixRegionTooComplex : PySem.W.isClsIn K CRegionTooComplex = true) (sxRegionTooComplex : PySem.W.subIn K (.ref CRegionTooComplex) (.ref CRegionTooComplex) = some true)
    (sgoc : PySem.W.specialIn K (.builtin "object.__class__") "__get__" = some (some (.builtin "getset_descriptor.__get__"))) (tkoc : PySem.W.takesIn K (.builtin "object.__class__") = some true)
    (gaRegionTooLarge : PySem.W.findIn K (.ref CRegionTooLarge) "__getattribute__" = some (some (.builtin "BaseException.__getattribute__"))) (gtRegionTooLarge : PySem.W.findIn K (.ref CRegionTooLarge) "__getattr__" = some none) (hxRegionTooLarge : PySem.W.hasDictIn K CRegionTooLarge = true) (fcRegionTooLarge : PySem.W.findIn K (.ref CRegionTooLarge) "__class__" = some (some (.builtin "object.__class__"))) (moRegionTooLarge : PySem.W.mroIn K CRegionTooLarge (.type "object") = some true)
    (kitRegionTooLarge_DisplayError : PySem.W.kitOne K (.ref CRegionTooLarge) (.ref CDisplayError) = some true)
    (kitRegionTooLarge_RegionTooComplex : PySem.W.kitOne K (.ref CRegionTooLarge) (.ref CRegionTooComplex) = some false)
    (kitRegionTooLarge_RegionTooLarge : PySem.W.kitOne K (.ref CRegionTooLarge) (.ref CRegionTooLarge) = some true)
    (gaRegionTooComplex : PySem.W.findIn K (.ref CRegionTooComplex) "__getattribute__" = some (some (.builtin "BaseException.__getattribute__"))) (gtRegionTooComplex : PySem.W.findIn K (.ref CRegionTooComplex) "__getattr__" = some none) (hxRegionTooComplex : PySem.W.hasDictIn K CRegionTooComplex = true) (fcRegionTooComplex : PySem.W.findIn K (.ref CRegionTooComplex) "__class__" = some (some (.builtin "object.__class__"))) (moRegionTooComplex : PySem.W.mroIn K CRegionTooComplex (.type "object") = some true)
    (kitRegionTooComplex_DisplayError : PySem.W.kitOne K (.ref CRegionTooComplex) (.ref CDisplayError) = some true)
    (kitRegionTooComplex_RegionTooComplex : PySem.W.kitOne K (.ref CRegionTooComplex) (.ref CRegionTooComplex) = some true)
    (kitRegionTooComplex_RegionTooLarge : PySem.W.kitOne K (.ref CRegionTooComplex) (.ref CRegionTooLarge) = some false)
    (subDisplayError_RegionTooLarge : PySem.W.subIn K (.ref CDisplayError) (.ref CRegionTooLarge) = some false)
    (subDisplayError_RegionTooComplex : PySem.W.subIn K (.ref CDisplayError) (.ref CRegionTooComplex) = some false)
    (subRegionTooLarge_DisplayError : PySem.W.subIn K (.ref CRegionTooLarge) (.ref CDisplayError) = some true)
    (subRegionTooLarge_RegionTooComplex : PySem.W.subIn K (.ref CRegionTooLarge) (.ref CRegionTooComplex) = some false)
    (subRegionTooComplex_DisplayError : PySem.W.subIn K (.ref CRegionTooComplex) (.ref CDisplayError) = some true)
    (subRegionTooComplex_RegionTooLarge : PySem.W.subIn K (.ref CRegionTooComplex) (.ref CRegionTooLarge) = some false)
    : ∃ A : Adr, A.flaw = fa ∧ Txt K mg A ∧ (∀ (s : Shared) (v : Value), BindsTo s A.dlaw ⟨[v], []⟩ [("script", v)]) := by
  have e := hfa.symm.trans (PySem.W.mg_of X G a33)
  cases e
  have F1 := fun_mk (st := s_rectangle_region) l1 c1 k1
  have b1 := F1.binds (ps := ["x", "y", "width", "height"]) fun _ _ _ _ _ _ us hl => match us, hl with | [_, _, _, _], _ => rfl
  have F2 := fun_mk (st := s_united) l2 c2 k2
  have b2 := F2.binds (ps := ["a", "b"]) fun _ _ _ _ _ _ us hl => match us, hl with | [_, _], _ => rfl
  have F3 := fun_mk (st := s_common) l3 c3 k3
  have b3 := F3.binds (ps := ["a", "b"]) fun _ _ _ _ _ _ us hl => match us, hl with | [_, _], _ => rfl
  have F4 := fun_mk (st := s_without) l4 c4 k4
  have b4 := F4.binds (ps := ["a", "b"]) fun _ _ _ _ _ _ us hl => match us, hl with | [_, _], _ => rfl
  have F5 := fun_mk (st := s_shifted) l5 c5 k5
  have b5 := F5.binds (ps := ["region", "dx", "dy"]) fun _ _ _ _ _ _ us hl => match us, hl with | [_, _, _], _ => rfl
  have F6 := fun_mk (st := s_scaled) l6 c6 k6
  have b6 := F6.binds (ps := ["region", "n"]) fun _ _ _ _ _ _ us hl => match us, hl with | [_, _], _ => rfl
  have F7 := fun_mk (st := s_turned) l7 c7 k7
  have b7 := F7.binds (ps := ["region", "height"]) fun _ _ _ _ _ _ us hl => match us, hl with | [_, _], _ => rfl
  have F8 := fun_mk (st := s_mirrored) l8 c8 k8
  have b8 := F8.binds (ps := ["region", "width"]) fun _ _ _ _ _ _ us hl => match us, hl with | [_, _], _ => rfl
  have F9 := fun_mk (st := s_rectangles) l9 c9 k9
  have b9 := F9.binds (ps := ["region"]) fun _ _ _ _ _ _ us hl => match us, hl with | [_], _ => rfl
  have F10 := fun_mk (st := s__either) l10 c10 k10
  have b10 := F10.binds (ps := ["first", "second"]) fun _ _ _ _ _ _ us hl => match us, hl with | [_, _], _ => rfl
  have F11 := fun_mk (st := s__first_alone) l11 c11 k11
  have b11 := F11.binds (ps := ["first", "second"]) fun _ _ _ _ _ _ us hl => match us, hl with | [_, _], _ => rfl
  have F12 := fun_mk (st := s__combined) l12 c12 k12
  have b12 := F12.binds (ps := ["a", "b", "keeps"]) fun _ _ _ _ _ _ us hl => match us, hl with | [_, _, _], _ => rfl
  have F13 := fun_mk (st := s__combined_spans) l13 c13 k13
  have b13 := F13.binds (ps := ["a", "b", "keeps"]) fun _ _ _ _ _ _ us hl => match us, hl with | [_, _, _], _ => rfl
  have F14 := fun_mk (st := s__common_spans) l14 c14 k14
  have b14 := F14.binds (ps := ["a", "b"]) fun _ _ _ _ _ _ us hl => match us, hl with | [_, _], _ => rfl
  have F15 := fun_mk (st := s__spans_of) l15 c15 k15
  have b15 := F15.binds (ps := ["band"]) fun _ _ _ _ _ _ us hl => match us, hl with | [_], _ => rfl
  have F16 := fun_mk (st := s__pieces) l16 c16 k16
  have b16 := F16.binds (ps := ["a", "b"]) fun _ _ _ _ _ _ us hl => match us, hl with | [_, _], _ => rfl
  have F17 := fun_mk (st := s__first_ending_behind) l17 c17 k17
  have b17 := F17.binds (ps := ["rows", "at", "place"]) fun _ _ _ _ _ _ us hl => match us, hl with | [_, _, _], _ => rfl
  have F18 := fun_mk (st := s__row_from) l18 c18 k18
  have b18 := F18.binds (ps := ["rows", "at", "place"]) fun _ _ _ _ _ _ us hl => match us, hl with | [_, _, _], _ => rfl
  have F19 := fun_mk (st := s__joined) l19 c19 k19
  have b19 := F19.binds (ps := ["bands"]) fun _ _ _ _ _ _ us hl => match us, hl with | [_], _ => rfl
  have F20 := fun_mk (st := s__column_marks) l20 c20 k20
  have b20 := F20.binds (ps := ["region", "height"]) fun _ _ _ _ _ _ us hl => match us, hl with | [_, _], _ => rfl
  have F21 := fun_mk (st := s_region_of) l21 c21 k21
  have b21 := F21.binds (ps := ["steps"]) fun _ _ _ _ _ _ us hl => match us, hl with | [_], _ => rfl
  have F22 := fun_mk (st := s__after_step) l22 c22 k22
  have b22 := F22.binds (ps := ["region", "step"]) fun _ _ _ _ _ _ us hl => match us, hl with | [_, _], _ => rfl
  have F23 := fun_mk (st := s__check) l23 c23 k23
  have b23 := F23.binds (ps := ["region"]) fun _ _ _ _ _ _ us hl => match us, hl with | [_], _ => rfl
  have F24 := fun_mk (st := s__is_far) l24 c24 k24
  have b24 := F24.binds (ps := ["band"]) fun _ _ _ _ _ _ us hl => match us, hl with | [_], _ => rfl
  have F25 := fun_mk (st := s__law_cell) l25 c25 k25
  have b25 := F25.binds (ps := ["script", "k"]) fun _ _ _ _ _ _ us hl => match us, hl with | [_, _], _ => rfl
  have F26 := fun_mk (st := s__law_row) l26 c26 k26
  have b26 := F26.binds (ps := ["script", "k"]) fun _ _ _ _ _ _ us hl => match us, hl with | [_, _], _ => rfl
  have F27 := fun_mk (st := s__law_step) l27 c27 k27
  have b27 := F27.binds (ps := ["row"]) fun _ _ _ _ _ _ us hl => match us, hl with | [_], _ => rfl
  have F28 := fun_mk (st := s__law_far) l28 c28 k28
  have b28 := F28.binds (ps := ["row"]) fun _ _ _ _ _ _ us hl => match us, hl with | [_], _ => rfl
  have F29 := fun_mk (st := s__law_comb) l29 c29 k29
  have b29 := F29.binds (ps := ["row"]) fun _ _ _ _ _ _ us hl => match us, hl with | [_], _ => rfl
  have F30 := fun_mk (st := s__law_after) l30 c30 k30
  have b30 := F30.binds (ps := ["region", "step"]) fun _ _ _ _ _ _ us hl => match us, hl with | [_, _], _ => rfl
  have F31 := fun_mk (st := s__law_fault) l31 c31 k31
  have b31 := F31.binds (ps := ["region"]) fun _ _ _ _ _ _ us hl => match us, hl with | [_], _ => rfl
  have F32 := fun_mk (st := s__law_told) l32 c32 k32
  have b32 := F32.binds (ps := ["steps"]) fun _ _ _ _ _ _ us hl => match us, hl with | [_], _ => rfl
  have F33 := fun_mk (st := s_law) l33 c33 k33
  have b33 := F33.binds (ps := ["script"]) fun _ _ _ _ _ _ us hl => match us, hl with | [_], _ => rfl
  refine ⟨{ frectangle_region := frectangle_region, drectangle_region := (PySem.W.fnOf "rectangle_region" "rectangle_region" (defArgs s_rectangle_region) (defBody s_rectangle_region) (defScope s_rectangle_region) .none kV1 dc1 pm1 an1 cd1 ct1), funited := funited, dunited := (PySem.W.fnOf "united" "united" (defArgs s_united) (defBody s_united) (defScope s_united) .none kV2 dc2 pm2 an2 cd2 ct2), fcommon := fcommon, dcommon := (PySem.W.fnOf "common" "common" (defArgs s_common) (defBody s_common) (defScope s_common) .none kV3 dc3 pm3 an3 cd3 ct3), fwithout := fwithout, dwithout := (PySem.W.fnOf "without" "without" (defArgs s_without) (defBody s_without) (defScope s_without) .none kV4 dc4 pm4 an4 cd4 ct4), fshifted := fshifted, dshifted := (PySem.W.fnOf "shifted" "shifted" (defArgs s_shifted) (defBody s_shifted) (defScope s_shifted) .none kV5 dc5 pm5 an5 cd5 ct5), fscaled := fscaled, dscaled := (PySem.W.fnOf "scaled" "scaled" (defArgs s_scaled) (defBody s_scaled) (defScope s_scaled) .none kV6 dc6 pm6 an6 cd6 ct6), fturned := fturned, dturned := (PySem.W.fnOf "turned" "turned" (defArgs s_turned) (defBody s_turned) (defScope s_turned) .none kV7 dc7 pm7 an7 cd7 ct7), fmirrored := fmirrored, dmirrored := (PySem.W.fnOf "mirrored" "mirrored" (defArgs s_mirrored) (defBody s_mirrored) (defScope s_mirrored) .none kV8 dc8 pm8 an8 cd8 ct8), frectangles := frectangles, drectangles := (PySem.W.fnOf "rectangles" "rectangles" (defArgs s_rectangles) (defBody s_rectangles) (defScope s_rectangles) .none kV9 dc9 pm9 an9 cd9 ct9), f_either := f_either, d_either := (PySem.W.fnOf "_either" "_either" (defArgs s__either) (defBody s__either) (defScope s__either) .none kV10 dc10 pm10 an10 cd10 ct10), f_first_alone := f_first_alone, d_first_alone := (PySem.W.fnOf "_first_alone" "_first_alone" (defArgs s__first_alone) (defBody s__first_alone) (defScope s__first_alone) .none kV11 dc11 pm11 an11 cd11 ct11), f_combined := f_combined, d_combined := (PySem.W.fnOf "_combined" "_combined" (defArgs s__combined) (defBody s__combined) (defScope s__combined) .none kV12 dc12 pm12 an12 cd12 ct12), f_combined_spans := f_combined_spans, d_combined_spans := (PySem.W.fnOf "_combined_spans" "_combined_spans" (defArgs s__combined_spans) (defBody s__combined_spans) (defScope s__combined_spans) .none kV13 dc13 pm13 an13 cd13 ct13), f_common_spans := f_common_spans, d_common_spans := (PySem.W.fnOf "_common_spans" "_common_spans" (defArgs s__common_spans) (defBody s__common_spans) (defScope s__common_spans) .none kV14 dc14 pm14 an14 cd14 ct14), f_spans_of := f_spans_of, d_spans_of := (PySem.W.fnOf "_spans_of" "_spans_of" (defArgs s__spans_of) (defBody s__spans_of) (defScope s__spans_of) .none kV15 dc15 pm15 an15 cd15 ct15), f_pieces := f_pieces, d_pieces := (PySem.W.fnOf "_pieces" "_pieces" (defArgs s__pieces) (defBody s__pieces) (defScope s__pieces) .none kV16 dc16 pm16 an16 cd16 ct16), f_first_ending_behind := f_first_ending_behind, d_first_ending_behind := (PySem.W.fnOf "_first_ending_behind" "_first_ending_behind" (defArgs s__first_ending_behind) (defBody s__first_ending_behind) (defScope s__first_ending_behind) .none kV17 dc17 pm17 an17 cd17 ct17), f_row_from := f_row_from, d_row_from := (PySem.W.fnOf "_row_from" "_row_from" (defArgs s__row_from) (defBody s__row_from) (defScope s__row_from) .none kV18 dc18 pm18 an18 cd18 ct18), f_joined := f_joined, d_joined := (PySem.W.fnOf "_joined" "_joined" (defArgs s__joined) (defBody s__joined) (defScope s__joined) .none kV19 dc19 pm19 an19 cd19 ct19), f_column_marks := f_column_marks, d_column_marks := (PySem.W.fnOf "_column_marks" "_column_marks" (defArgs s__column_marks) (defBody s__column_marks) (defScope s__column_marks) .none kV20 dc20 pm20 an20 cd20 ct20), fregion_of := fregion_of, dregion_of := (PySem.W.fnOf "region_of" "region_of" (defArgs s_region_of) (defBody s_region_of) (defScope s_region_of) .none kV21 dc21 pm21 an21 cd21 ct21), f_after_step := f_after_step, d_after_step := (PySem.W.fnOf "_after_step" "_after_step" (defArgs s__after_step) (defBody s__after_step) (defScope s__after_step) .none kV22 dc22 pm22 an22 cd22 ct22), f_check := f_check, d_check := (PySem.W.fnOf "_check" "_check" (defArgs s__check) (defBody s__check) (defScope s__check) .none kV23 dc23 pm23 an23 cd23 ct23), f_is_far := f_is_far, d_is_far := (PySem.W.fnOf "_is_far" "_is_far" (defArgs s__is_far) (defBody s__is_far) (defScope s__is_far) .none kV24 dc24 pm24 an24 cd24 ct24), f_law_cell := f_law_cell, d_law_cell := (PySem.W.fnOf "_law_cell" "_law_cell" (defArgs s__law_cell) (defBody s__law_cell) (defScope s__law_cell) .none kV25 dc25 pm25 an25 cd25 ct25), f_law_row := f_law_row, d_law_row := (PySem.W.fnOf "_law_row" "_law_row" (defArgs s__law_row) (defBody s__law_row) (defScope s__law_row) .none kV26 dc26 pm26 an26 cd26 ct26), f_law_step := f_law_step, d_law_step := (PySem.W.fnOf "_law_step" "_law_step" (defArgs s__law_step) (defBody s__law_step) (defScope s__law_step) .none kV27 dc27 pm27 an27 cd27 ct27), f_law_far := f_law_far, d_law_far := (PySem.W.fnOf "_law_far" "_law_far" (defArgs s__law_far) (defBody s__law_far) (defScope s__law_far) .none kV28 dc28 pm28 an28 cd28 ct28), f_law_comb := f_law_comb, d_law_comb := (PySem.W.fnOf "_law_comb" "_law_comb" (defArgs s__law_comb) (defBody s__law_comb) (defScope s__law_comb) .none kV29 dc29 pm29 an29 cd29 ct29), f_law_after := f_law_after, d_law_after := (PySem.W.fnOf "_law_after" "_law_after" (defArgs s__law_after) (defBody s__law_after) (defScope s__law_after) .none kV30 dc30 pm30 an30 cd30 ct30), f_law_fault := f_law_fault, d_law_fault := (PySem.W.fnOf "_law_fault" "_law_fault" (defArgs s__law_fault) (defBody s__law_fault) (defScope s__law_fault) .none kV31 dc31 pm31 an31 cd31 ct31), f_law_told := f_law_told, d_law_told := (PySem.W.fnOf "_law_told" "_law_told" (defArgs s__law_told) (defBody s__law_told) (defScope s__law_told) .none kV32 dc32 pm32 an32 cd32 ct32), flaw := fa, dlaw := (PySem.W.fnOf "law" "law" (defArgs s_law) (defBody s_law) (defScope s_law) .none kV33 dc33 pm33 an33 cd33 ct33), tFARTHEST := tFARTHEST, tMOST_RECTANGLES := tMOST_RECTANGLES, CDisplayError := CDisplayError, CRegionTooLarge := CRegionTooLarge, CRegionTooComplex := CRegionTooComplex }, rfl, { Frectangle_region := F1, brectangle_region := b1, grectangle_region := PySem.W.mg_of X G a1, krectangle_region := k1, Funited := F2, bunited := b2, gunited := PySem.W.mg_of X G a2, kunited := k2, Fcommon := F3, bcommon := b3, gcommon := PySem.W.mg_of X G a3, kcommon := k3, Fwithout := F4, bwithout := b4, gwithout := PySem.W.mg_of X G a4, kwithout := k4, Fshifted := F5, bshifted := b5, gshifted := PySem.W.mg_of X G a5, kshifted := k5, Fscaled := F6, bscaled := b6, gscaled := PySem.W.mg_of X G a6, kscaled := k6, Fturned := F7, bturned := b7, gturned := PySem.W.mg_of X G a7, kturned := k7, Fmirrored := F8, bmirrored := b8, gmirrored := PySem.W.mg_of X G a8, kmirrored := k8, Frectangles := F9, brectangles := b9, grectangles := PySem.W.mg_of X G a9, krectangles := k9, F_either := F10, b_either := b10, g_either := PySem.W.mg_of X G a10, k_either := k10, F_first_alone := F11, b_first_alone := b11, g_first_alone := PySem.W.mg_of X G a11, k_first_alone := k11, F_combined := F12, b_combined := b12, g_combined := PySem.W.mg_of X G a12, k_combined := k12, F_combined_spans := F13, b_combined_spans := b13, g_combined_spans := PySem.W.mg_of X G a13, k_combined_spans := k13, F_common_spans := F14, b_common_spans := b14, g_common_spans := PySem.W.mg_of X G a14, k_common_spans := k14, F_spans_of := F15, b_spans_of := b15, g_spans_of := PySem.W.mg_of X G a15, k_spans_of := k15, F_pieces := F16, b_pieces := b16, g_pieces := PySem.W.mg_of X G a16, k_pieces := k16, F_first_ending_behind := F17, b_first_ending_behind := b17, g_first_ending_behind := PySem.W.mg_of X G a17, k_first_ending_behind := k17, F_row_from := F18, b_row_from := b18, g_row_from := PySem.W.mg_of X G a18, k_row_from := k18, F_joined := F19, b_joined := b19, g_joined := PySem.W.mg_of X G a19, k_joined := k19, F_column_marks := F20, b_column_marks := b20, g_column_marks := PySem.W.mg_of X G a20, k_column_marks := k20, Fregion_of := F21, bregion_of := b21, gregion_of := PySem.W.mg_of X G a21, kregion_of := k21, F_after_step := F22, b_after_step := b22, g_after_step := PySem.W.mg_of X G a22, k_after_step := k22, F_check := F23, b_check := b23, g_check := PySem.W.mg_of X G a23, k_check := k23, F_is_far := F24, b_is_far := b24, g_is_far := PySem.W.mg_of X G a24, k_is_far := k24, F_law_cell := F25, b_law_cell := b25, g_law_cell := PySem.W.mg_of X G a25, k_law_cell := k25, F_law_row := F26, b_law_row := b26, g_law_row := PySem.W.mg_of X G a26, k_law_row := k26, F_law_step := F27, b_law_step := b27, g_law_step := PySem.W.mg_of X G a27, k_law_step := k27, F_law_far := F28, b_law_far := b28, g_law_far := PySem.W.mg_of X G a28, k_law_far := k28, F_law_comb := F29, b_law_comb := b29, g_law_comb := PySem.W.mg_of X G a29, k_law_comb := k29, F_law_after := F30, b_law_after := b30, g_law_after := PySem.W.mg_of X G a30, k_law_after := k30, F_law_fault := F31, b_law_fault := b31, g_law_fault := PySem.W.mg_of X G a31, k_law_fault := k31, F_law_told := F32, b_law_told := b32, g_law_told := PySem.W.mg_of X G a32, k_law_told := k32, Flaw := F33, blaw := b33, glaw := PySem.W.mg_of X G a33, klaw := k33, any := PySem.W.mg_none_of X G z_any, int := PySem.W.mg_none_of X G z_int, isinstance := PySem.W.mg_none_of X G z_isinstance, len := PySem.W.mg_none_of X G z_len, list := PySem.W.mg_none_of X G z_list, max := PySem.W.mg_none_of X G z_max, min := PySem.W.mg_none_of X G z_min, range := PySem.W.mg_none_of X G z_range, reversed := PySem.W.mg_none_of X G z_reversed, set := PySem.W.mg_none_of X G z_set, sorted := PySem.W.mg_none_of X G z_sorted, tuple := PySem.W.mg_none_of X G z_tuple, zip := PySem.W.mg_none_of X G z_zip, gFARTHEST := PySem.W.mg_of X G q_FARTHEST, gMOST_RECTANGLES := PySem.W.mg_of X G q_MOST_RECTANGLES, gDisplayError := PySem.W.mg_of X G uDisplayError, xDisplayError := xDisplayError, kDisplayError := keDisplayError, bxDisplayError := bxDisplayError, txDisplayError := txDisplayError, exDisplayError := exm_self bxDisplayError ixDisplayError txDisplayError sxDisplayError, gRegionTooLarge := PySem.W.mg_of X G uRegionTooLarge, xRegionTooLarge := xRegionTooLarge, kRegionTooLarge := keRegionTooLarge, bxRegionTooLarge := bxRegionTooLarge, txRegionTooLarge := txRegionTooLarge, exRegionTooLarge := exm_self bxRegionTooLarge ixRegionTooLarge txRegionTooLarge sxRegionTooLarge, gRegionTooComplex := PySem.W.mg_of X G uRegionTooComplex, xRegionTooComplex := xRegionTooComplex, kRegionTooComplex := keRegionTooComplex, bxRegionTooComplex := bxRegionTooComplex, txRegionTooComplex := txRegionTooComplex, exRegionTooComplex := exm_self bxRegionTooComplex ixRegionTooComplex txRegionTooComplex sxRegionTooComplex, iERegionTooLarge := ⟨gaRegionTooLarge, gtRegionTooLarge, bxRegionTooLarge, hxRegionTooLarge, fcRegionTooLarge, sgoc, tkoc, moRegionTooLarge⟩, kitRegionTooLarge_DisplayError := kitRegionTooLarge_DisplayError, kitRegionTooLarge_RegionTooComplex := kitRegionTooLarge_RegionTooComplex, kitRegionTooLarge_RegionTooLarge := kitRegionTooLarge_RegionTooLarge, iERegionTooComplex := ⟨gaRegionTooComplex, gtRegionTooComplex, bxRegionTooComplex, hxRegionTooComplex, fcRegionTooComplex, sgoc, tkoc, moRegionTooComplex⟩, kitRegionTooComplex_DisplayError := kitRegionTooComplex_DisplayError, kitRegionTooComplex_RegionTooComplex := kitRegionTooComplex_RegionTooComplex, kitRegionTooComplex_RegionTooLarge := kitRegionTooComplex_RegionTooLarge, exDisplayError_RegionTooLarge := exm_cross bxRegionTooLarge ixRegionTooLarge txRegionTooLarge subDisplayError_RegionTooLarge, exDisplayError_RegionTooComplex := exm_cross bxRegionTooComplex ixRegionTooComplex txRegionTooComplex subDisplayError_RegionTooComplex, exRegionTooLarge_DisplayError := exm_cross bxDisplayError ixDisplayError txDisplayError subRegionTooLarge_DisplayError, exRegionTooLarge_RegionTooComplex := exm_cross bxRegionTooComplex ixRegionTooComplex txRegionTooComplex subRegionTooLarge_RegionTooComplex, exRegionTooComplex_DisplayError := exm_cross bxDisplayError ixDisplayError txDisplayError subRegionTooComplex_DisplayError, exRegionTooComplex_RegionTooLarge := exm_cross bxRegionTooLarge ixRegionTooLarge txRegionTooLarge subRegionTooComplex_RegionTooLarge }, fun s v => .of_eq rfl⟩
theorem walk {l : PySem.W.OpenLaw} {q : Program} {loose : List Str} {XP : (Str → Option Value) → Heap → Prop} {YP : World → Heap → Prop} {d : DefRec} {K : Params → PySem.W.Frag} (hn : l.most = some 63) (hdf : d.params.defaults = [])
    (hY : ∀ (w : World) (h : Heap), YP w h → (K w.params).In h)
    (F : ∀ (w : World) (mg : Str → Option Value) (fa : Addr) (h : Heap), (K w.params).In h → h.Ns mainGlobals mg → mg d.name = some (.ref fa) →
      ∃ A : Adr, A.flaw = fa ∧ Txt (K w.params) mg A ∧ (∀ (s : Shared) (v : Value), BindsTo s A.dlaw ⟨[v], []⟩ [("script", v)])) :
    PySem.W.WalkO q loose XP YP l.row.toRowW d [] (fun f vs => PySem.call f vs) :=
  L2.walk_of (n := 63) (k := 9) (x := "script") (CX := fun _ => CX0) (sp := fun w => sp_law (K w.params)) hn (by decide) hdf ⟨rfl, by decide, by decide⟩ hY (fun w mg fa h X G hfa => by
    obtain ⟨A, rfl, T, b⟩ := F w mg fa h X G hfa
    exact ⟨A.dlaw, b, fun base _ _ => ok_law T⟩) (fun _ _ a ns hl _ hS => ⟨a, ns, rfl, hS, hl, fun _ => rfl⟩) fun _ _ _ _ _ z => z
end My
open PySem PySem.W PyProof.Rows
set_option maxRecDepth 100000 in
set_option maxHeartbeats 0 in
theorem PySem.Challenge.cw_sillwatch_k25_steps_holds : PySem.Challenge.rw_sillwatch_k25_steps.Holds := by
  w_on; o_law; k_head; (case hw => w_witness2)
  k_fill
  refine My.walk (l := PySem.Challenge.rw_sillwatch_k25_steps) rfl rfl (fun w h Y => PySem.W.kIn_of Y) ?F
  case F =>
    intro w mg fa h KX G hmg
    refine' My.all_mk KX G hmg ?a1 ?l1 ?c1 ?k1 ?a2 ?l2 ?c2 ?k2 ?a3 ?l3 ?c3 ?k3 ?a4 ?l4 ?c4 ?k4 ?a5 ?l5 ?c5 ?k5 ?a6 ?l6 ?c6 ?k6 ?a7 ?l7 ?c7 ?k7 ?a8 ?l8 ?c8 ?k8 ?a9 ?l9 ?c9 ?k9 ?a10 ?l10 ?c10 ?k10 ?a11 ?l11 ?c11 ?k11 ?a12 ?l12 ?c12 ?k12 ?a13 ?l13 ?c13 ?k13 ?a14 ?l14 ?c14 ?k14 ?a15 ?l15 ?c15 ?k15 ?a16 ?l16 ?c16 ?k16 ?a17 ?l17 ?c17 ?k17 ?a18 ?l18 ?c18 ?k18 ?a19 ?l19 ?c19 ?k19 ?a20 ?l20 ?c20 ?k20 ?a21 ?l21 ?c21 ?k21 ?a22 ?l22 ?c22 ?k22 ?a23 ?l23 ?c23 ?k23 ?a24 ?l24 ?c24 ?k24 ?a25 ?l25 ?c25 ?k25 ?a26 ?l26 ?c26 ?k26 ?a27 ?l27 ?c27 ?k27 ?a28 ?l28 ?c28 ?k28 ?a29 ?l29 ?c29 ?k29 ?a30 ?l30 ?c30 ?k30 ?a31 ?l31 ?c31 ?k31 ?a32 ?l32 ?c32 ?k32 ?a33 ?l33 ?c33 ?k33 ?z_any ?z_int ?z_isinstance ?z_len ?z_list ?z_max ?z_min ?z_range ?z_reversed ?z_set ?z_sorted ?z_tuple ?z_zip ?q_FARTHEST ?q_MOST_RECTANGLES ?uDisplayError ?xDisplayError ?keDisplayError ?bxDisplayError ?txDisplayError ?ixDisplayError ?sxDisplayError ?uRegionTooLarge ?xRegionTooLarge ?keRegionTooLarge ?bxRegionTooLarge ?txRegionTooLarge ?ixRegionTooLarge ?sxRegionTooLarge ?uRegionTooComplex ?xRegionTooComplex ?keRegionTooComplex ?bxRegionTooComplex ?txRegionTooComplex ?ixRegionTooComplex ?sxRegionTooComplex ?sgoc ?tkoc ?gaRegionTooLarge ?gtRegionTooLarge ?hxRegionTooLarge ?fcRegionTooLarge ?moRegionTooLarge ?kitRegionTooLarge_DisplayError ?kitRegionTooLarge_RegionTooComplex ?kitRegionTooLarge_RegionTooLarge ?gaRegionTooComplex ?gtRegionTooComplex ?hxRegionTooComplex ?fcRegionTooComplex ?moRegionTooComplex ?kitRegionTooComplex_DisplayError ?kitRegionTooComplex_RegionTooComplex ?kitRegionTooComplex_RegionTooLarge ?subDisplayError_RegionTooLarge ?subDisplayError_RegionTooComplex ?subRegionTooLarge_DisplayError ?subRegionTooLarge_RegionTooComplex ?subRegionTooComplex_DisplayError ?subRegionTooComplex_RegionTooLarge
    (case uDisplayError => k_is)
    (case uRegionTooLarge => k_is)
    (case uRegionTooComplex => k_is)
    (case a1 => k_is)
    (case l1 => k_is)
    (case c1 => k_is)
    (case k1 => k_is)
    (case a2 => k_is)
    (case l2 => k_is)
    (case c2 => k_is)
    (case k2 => k_is)
    (case a3 => k_is)
    (case l3 => k_is)
    (case c3 => k_is)
    (case k3 => k_is)
    (case a4 => k_is)
    (case l4 => k_is)
    (case c4 => k_is)
    (case k4 => k_is)
    (case a5 => k_is)
    (case l5 => k_is)
    (case c5 => k_is)
    (case k5 => k_is)
    (case a6 => k_is)
    (case l6 => k_is)
    (case c6 => k_is)
    (case k6 => k_is)
    (case a7 => k_is)
    (case l7 => k_is)
    (case c7 => k_is)
    (case k7 => k_is)
    (case a8 => k_is)
    (case l8 => k_is)
    (case c8 => k_is)
    (case k8 => k_is)
    (case a9 => k_is)
    (case l9 => k_is)
    (case c9 => k_is)
    (case k9 => k_is)
    (case a10 => k_is)
    (case l10 => k_is)
    (case c10 => k_is)
    (case k10 => k_is)
    (case a11 => k_is)
    (case l11 => k_is)
    (case c11 => k_is)
    (case k11 => k_is)
    (case a12 => k_is)
    (case l12 => k_is)
    (case c12 => k_is)
    (case k12 => k_is)
    (case a13 => k_is)
    (case l13 => k_is)
    (case c13 => k_is)
    (case k13 => k_is)
    (case a14 => k_is)
    (case l14 => k_is)
    (case c14 => k_is)
    (case k14 => k_is)
    (case a15 => k_is)
    (case l15 => k_is)
    (case c15 => k_is)
    (case k15 => k_is)
    (case a16 => k_is)
    (case l16 => k_is)
    (case c16 => k_is)
    (case k16 => k_is)
    (case a17 => k_is)
    (case l17 => k_is)
    (case c17 => k_is)
    (case k17 => k_is)
    (case a18 => k_is)
    (case l18 => k_is)
    (case c18 => k_is)
    (case k18 => k_is)
    (case a19 => k_is)
    (case l19 => k_is)
    (case c19 => k_is)
    (case k19 => k_is)
    (case a20 => k_is)
    (case l20 => k_is)
    (case c20 => k_is)
    (case k20 => k_is)
    (case a21 => k_is)
    (case l21 => k_is)
    (case c21 => k_is)
    (case k21 => k_is)
    (case a22 => k_is)
    (case l22 => k_is)
    (case c22 => k_is)
    (case k22 => k_is)
    (case a23 => k_is)
    (case l23 => k_is)
    (case c23 => k_is)
    (case k23 => k_is)
    (case a24 => k_is)
    (case l24 => k_is)
    (case c24 => k_is)
    (case k24 => k_is)
    (case a25 => k_is)
    (case l25 => k_is)
    (case c25 => k_is)
    (case k25 => k_is)
    (case a26 => k_is)
    (case l26 => k_is)
    (case c26 => k_is)
    (case k26 => k_is)
    (case a27 => k_is)
    (case l27 => k_is)
    (case c27 => k_is)
    (case k27 => k_is)
    (case a28 => k_is)
    (case l28 => k_is)
    (case c28 => k_is)
    (case k28 => k_is)
    (case a29 => k_is)
    (case l29 => k_is)
    (case c29 => k_is)
    (case k29 => k_is)
    (case a30 => k_is)
    (case l30 => k_is)
    (case c30 => k_is)
    (case k30 => k_is)
    (case a31 => k_is)
    (case l31 => k_is)
    (case c31 => k_is)
    (case k31 => k_is)
    (case a32 => k_is)
    (case l32 => k_is)
    (case c32 => k_is)
    (case k32 => k_is)
    (case a33 => k_is)
    (case l33 => k_is)
    (case c33 => k_is)
    (case k33 => k_is)
    (case z_any => k_is)
    (case z_int => k_is)
    (case z_isinstance => k_is)
    (case z_len => k_is)
    (case z_list => k_is)
    (case z_max => k_is)
    (case z_min => k_is)
    (case z_range => k_is)
    (case z_reversed => k_is)
    (case z_set => k_is)
    (case z_sorted => k_is)
    (case z_tuple => k_is)
    (case z_zip => k_is)
    (case q_FARTHEST => k_is)
    (case q_MOST_RECTANGLES => k_is)
    (case xDisplayError => k_exc)
    (case keDisplayError => k_is)
    (case bxDisplayError => k_is)
    (case txDisplayError => k_is)
    (case ixDisplayError => k_is)
    (case sxDisplayError => first | rfl | k_is)
    (case xRegionTooLarge => k_exc)
    (case keRegionTooLarge => k_is)
    (case bxRegionTooLarge => k_is)
    (case txRegionTooLarge => k_is)
    (case ixRegionTooLarge => k_is)
    (case sxRegionTooLarge => first | rfl | k_is)
    (case xRegionTooComplex => k_exc)
    (case keRegionTooComplex => k_is)
    (case bxRegionTooComplex => k_is)
    (case txRegionTooComplex => k_is)
    (case ixRegionTooComplex => k_is)
    (case sxRegionTooComplex => first | rfl | k_is)
    (case sgoc => k_is)
    (case tkoc => k_is)
    (case gaRegionTooLarge => k_is)
    (case gtRegionTooLarge => k_is)
    (case hxRegionTooLarge => k_is)
    (case fcRegionTooLarge => k_is)
    (case moRegionTooLarge => k_is)
    (case kitRegionTooLarge_DisplayError => kit_is)
    (case kitRegionTooLarge_RegionTooComplex => kit_is)
    (case kitRegionTooLarge_RegionTooLarge => kit_is)
    (case gaRegionTooComplex => k_is)
    (case gtRegionTooComplex => k_is)
    (case hxRegionTooComplex => k_is)
    (case fcRegionTooComplex => k_is)
    (case moRegionTooComplex => k_is)
    (case kitRegionTooComplex_DisplayError => kit_is)
    (case kitRegionTooComplex_RegionTooComplex => kit_is)
    (case kitRegionTooComplex_RegionTooLarge => kit_is)
    (case subDisplayError_RegionTooLarge => k_is)
    (case subDisplayError_RegionTooComplex => k_is)
    (case subRegionTooLarge_DisplayError => k_is)
    (case subRegionTooLarge_RegionTooComplex => k_is)
    (case subRegionTooComplex_DisplayError => k_is)
    (case subRegionTooComplex_RegionTooLarge => k_is)
