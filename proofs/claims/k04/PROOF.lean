import PyProof.Rows.All
import Wide.All
import OpenK.AllK
import Wide.FinOn
import HandS.ForMost
import HandS.Exc
import HandS.TryOnly
import HandS.ExcOwn
import HandS.WordsExc
import HandS.IsInst
import HandS.Wide
import HandS.Flow
import HandS.More
import HandS.Codes
import HandS.Walk
import HandS.TupLe
import HandS.WordsDict
import HandS.Conv
import HandS.TryMany
import HandS.ExcIs
import KE.KBits
import HandS.CallLocal
import HandS.Strs
import HandS.SetFor
import HandS.Set
import HandS.Property
import PySem.Challenge.RW_sillwatch_k04_arguments_read_back
set_option Elab.async false
set_option linter.all false
set_option maxRecDepth 100000
set_option maxHeartbeats 4000000
namespace My
open PySem L2
def topS (i : Nat) : Stmt := PySem.Challenge.pw_sillwatch_k04_arguments_read_back.main.body.getD i (.Pass ⟨0, 0, 0, 0⟩)
abbrev s_is_integer : Stmt := topS 18
abbrev s_is_text : Stmt := topS 19
abbrev s_number_octets : Stmt := topS 20
abbrev s_number_at : Stmt := topS 21
abbrev s_field_octets : Stmt := topS 22
abbrev s_read_arguments : Stmt := topS 23
abbrev s__is_code : Stmt := topS 24
abbrev s__is_of : Stmt := topS 25
abbrev s__are_octets : Stmt := topS 26
abbrev s__is_bound : Stmt := topS 27
abbrev s__text_octets : Stmt := topS 28
abbrev s__padded : Stmt := topS 29
abbrev s__read : Stmt := topS 30
abbrev s__read_number : Stmt := topS 31
abbrev s__read_named : Stmt := topS 32
abbrev s__read_text : Stmt := topS 33
abbrev s__read_octets : Stmt := topS 34
abbrev s__demand : Stmt := topS 35
abbrev s__behind_padding : Stmt := topS 36
abbrev s__law_cell : Stmt := topS 38
abbrev s__law_row : Stmt := topS 39
abbrev s__law_sign : Stmt := topS 40
abbrev s__law_text : Stmt := topS 41
abbrev s__law_octets : Stmt := topS 42
abbrev s__law_value : Stmt := topS 43
abbrev s__law_kind : Stmt := topS 44
abbrev s_law : Stmt := topS 45
structure Adr where
  fis_integer : Addr
  dis_integer : FuncData
  fis_text : Addr
  dis_text : FuncData
  fnumber_octets : Addr
  dnumber_octets : FuncData
  fnumber_at : Addr
  dnumber_at : FuncData
  ffield_octets : Addr
  dfield_octets : FuncData
  fread_arguments : Addr
  dread_arguments : FuncData
  f_is_code : Addr
  d_is_code : FuncData
  f_is_of : Addr
  d_is_of : FuncData
  f_are_octets : Addr
  d_are_octets : FuncData
  f_is_bound : Addr
  d_is_bound : FuncData
  f_text_octets : Addr
  d_text_octets : FuncData
  f_padded : Addr
  d_padded : FuncData
  f_read : Addr
  d_read : FuncData
  f_read_number : Addr
  d_read_number : FuncData
  f_read_named : Addr
  d_read_named : FuncData
  f_read_text : Addr
  d_read_text : FuncData
  f_read_octets : Addr
  d_read_octets : FuncData
  f_demand : Addr
  d_demand : FuncData
  f_behind_padding : Addr
  d_behind_padding : FuncData
  f_law_cell : Addr
  d_law_cell : FuncData
  f_law_row : Addr
  d_law_row : FuncData
  f_law_sign : Addr
  d_law_sign : FuncData
  f_law_text : Addr
  d_law_text : FuncData
  f_law_octets : Addr
  d_law_octets : FuncData
  f_law_value : Addr
  d_law_value : FuncData
  f_law_kind : Addr
  d_law_kind : FuncData
  flaw : Addr
  dlaw : FuncData
  tGREATEST_NUMBER : Tok
  tLEAST_INT : Tok
  tGREATEST_INT : Tok
  tLONGEST_TEXT : Tok
  tMOST_OCTETS : Tok
  t_FIRST_CODE : Tok
  t_LAST_CODE : Tok
  t_PERCENT_CODE : Tok
  t_CHARACTERS : Tok
  CBadMessage : Addr
  CBadLength : Addr
  CBadText : Addr
  CBadPadding : Addr
  CObjectMissing : Addr
structure Txt (K : PySem.W.Frag) (mg : Str → Option Value) (A : Adr) : Prop where
  Fis_integer : Fun K "is_integer" "is_integer" s_is_integer A.fis_integer A.dis_integer
  bis_integer : Binds K A.dis_integer ["value", "least", "greatest"] []
  gis_integer : mg "is_integer" = some (.ref A.fis_integer)
  kis_integer : PySem.W.keepIn K (.ref A.fis_integer) = true
  Fis_text : Fun K "is_text" "is_text" s_is_text A.fis_text A.dis_text
  bis_text : Binds K A.dis_text ["value"] []
  gis_text : mg "is_text" = some (.ref A.fis_text)
  kis_text : PySem.W.keepIn K (.ref A.fis_text) = true
  Fnumber_octets : Fun K "number_octets" "number_octets" s_number_octets A.fnumber_octets A.dnumber_octets
  bnumber_octets : Binds K A.dnumber_octets ["number", "count"] []
  gnumber_octets : mg "number_octets" = some (.ref A.fnumber_octets)
  knumber_octets : PySem.W.keepIn K (.ref A.fnumber_octets) = true
  Fnumber_at : Fun K "number_at" "number_at" s_number_at A.fnumber_at A.dnumber_at
  bnumber_at : Binds K A.dnumber_at ["octets", "at", "count"] []
  gnumber_at : mg "number_at" = some (.ref A.fnumber_at)
  knumber_at : PySem.W.keepIn K (.ref A.fnumber_at) = true
  Ffield_octets : Fun K "field_octets" "field_octets" s_field_octets A.ffield_octets A.dfield_octets
  bfield_octets : Binds K A.dfield_octets ["kind", "value"] []
  gfield_octets : mg "field_octets" = some (.ref A.ffield_octets)
  kfield_octets : PySem.W.keepIn K (.ref A.ffield_octets) = true
  Fread_arguments : Fun K "read_arguments" "read_arguments" s_read_arguments A.fread_arguments A.dread_arguments
  bread_arguments : Binds K A.dread_arguments ["kinds", "octets"] []
  gread_arguments : mg "read_arguments" = some (.ref A.fread_arguments)
  kread_arguments : PySem.W.keepIn K (.ref A.fread_arguments) = true
  F_is_code : Fun K "_is_code" "_is_code" s__is_code A.f_is_code A.d_is_code
  b_is_code : Binds K A.d_is_code ["code"] []
  g_is_code : mg "_is_code" = some (.ref A.f_is_code)
  k_is_code : PySem.W.keepIn K (.ref A.f_is_code) = true
  F_is_of : Fun K "_is_of" "_is_of" s__is_of A.f_is_of A.d_is_of
  b_is_of : Binds K A.d_is_of ["kind", "value"] []
  g_is_of : mg "_is_of" = some (.ref A.f_is_of)
  k_is_of : PySem.W.keepIn K (.ref A.f_is_of) = true
  F_are_octets : Fun K "_are_octets" "_are_octets" s__are_octets A.f_are_octets A.d_are_octets
  b_are_octets : Binds K A.d_are_octets ["value"] []
  g_are_octets : mg "_are_octets" = some (.ref A.f_are_octets)
  k_are_octets : PySem.W.keepIn K (.ref A.f_are_octets) = true
  F_is_bound : Fun K "_is_bound" "_is_bound" s__is_bound A.f_is_bound A.d_is_bound
  b_is_bound : Binds K A.d_is_bound ["value"] []
  g_is_bound : mg "_is_bound" = some (.ref A.f_is_bound)
  k_is_bound : PySem.W.keepIn K (.ref A.f_is_bound) = true
  F_text_octets : Fun K "_text_octets" "_text_octets" s__text_octets A.f_text_octets A.d_text_octets
  b_text_octets : Binds K A.d_text_octets ["text"] []
  g_text_octets : mg "_text_octets" = some (.ref A.f_text_octets)
  k_text_octets : PySem.W.keepIn K (.ref A.f_text_octets) = true
  F_padded : Fun K "_padded" "_padded" s__padded A.f_padded A.d_padded
  b_padded : Binds K A.d_padded ["octets"] []
  g_padded : mg "_padded" = some (.ref A.f_padded)
  k_padded : PySem.W.keepIn K (.ref A.f_padded) = true
  F_read : Fun K "_read" "_read" s__read A.f_read A.d_read
  b_read : Binds K A.d_read ["kind", "octets", "at"] []
  g_read : mg "_read" = some (.ref A.f_read)
  k_read : PySem.W.keepIn K (.ref A.f_read) = true
  F_read_number : Fun K "_read_number" "_read_number" s__read_number A.f_read_number A.d_read_number
  b_read_number : Binds K A.d_read_number ["octets", "at"] []
  g_read_number : mg "_read_number" = some (.ref A.f_read_number)
  k_read_number : PySem.W.keepIn K (.ref A.f_read_number) = true
  F_read_named : Fun K "_read_named" "_read_named" s__read_named A.f_read_named A.d_read_named
  b_read_named : Binds K A.d_read_named ["octets", "at"] []
  g_read_named : mg "_read_named" = some (.ref A.f_read_named)
  k_read_named : PySem.W.keepIn K (.ref A.f_read_named) = true
  F_read_text : Fun K "_read_text" "_read_text" s__read_text A.f_read_text A.d_read_text
  b_read_text : Binds K A.d_read_text ["octets", "at"] []
  g_read_text : mg "_read_text" = some (.ref A.f_read_text)
  k_read_text : PySem.W.keepIn K (.ref A.f_read_text) = true
  F_read_octets : Fun K "_read_octets" "_read_octets" s__read_octets A.f_read_octets A.d_read_octets
  b_read_octets : Binds K A.d_read_octets ["octets", "at"] []
  g_read_octets : mg "_read_octets" = some (.ref A.f_read_octets)
  k_read_octets : PySem.W.keepIn K (.ref A.f_read_octets) = true
  F_demand : Fun K "_demand" "_demand" s__demand A.f_demand A.d_demand
  b_demand : Binds K A.d_demand ["octets", "end"] []
  g_demand : mg "_demand" = some (.ref A.f_demand)
  k_demand : PySem.W.keepIn K (.ref A.f_demand) = true
  F_behind_padding : Fun K "_behind_padding" "_behind_padding" s__behind_padding A.f_behind_padding A.d_behind_padding
  b_behind_padding : Binds K A.d_behind_padding ["octets", "end"] []
  g_behind_padding : mg "_behind_padding" = some (.ref A.f_behind_padding)
  k_behind_padding : PySem.W.keepIn K (.ref A.f_behind_padding) = true
  F_law_cell : Fun K "_law_cell" "_law_cell" s__law_cell A.f_law_cell A.d_law_cell
  b_law_cell : Binds K A.d_law_cell ["script", "k"] []
  g_law_cell : mg "_law_cell" = some (.ref A.f_law_cell)
  k_law_cell : PySem.W.keepIn K (.ref A.f_law_cell) = true
  F_law_row : Fun K "_law_row" "_law_row" s__law_row A.f_law_row A.d_law_row
  b_law_row : Binds K A.d_law_row ["script", "k"] []
  g_law_row : mg "_law_row" = some (.ref A.f_law_row)
  k_law_row : PySem.W.keepIn K (.ref A.f_law_row) = true
  F_law_sign : Fun K "_law_sign" "_law_sign" s__law_sign A.f_law_sign A.d_law_sign
  b_law_sign : Binds K A.d_law_sign ["digit"] []
  g_law_sign : mg "_law_sign" = some (.ref A.f_law_sign)
  k_law_sign : PySem.W.keepIn K (.ref A.f_law_sign) = true
  F_law_text : Fun K "_law_text" "_law_text" s__law_text A.f_law_text A.d_law_text
  b_law_text : Binds K A.d_law_text ["row", "size"] []
  g_law_text : mg "_law_text" = some (.ref A.f_law_text)
  k_law_text : PySem.W.keepIn K (.ref A.f_law_text) = true
  F_law_octets : Fun K "_law_octets" "_law_octets" s__law_octets A.f_law_octets A.d_law_octets
  b_law_octets : Binds K A.d_law_octets ["row", "size"] []
  g_law_octets : mg "_law_octets" = some (.ref A.f_law_octets)
  k_law_octets : PySem.W.keepIn K (.ref A.f_law_octets) = true
  F_law_value : Fun K "_law_value" "_law_value" s__law_value A.f_law_value A.d_law_value
  b_law_value : Binds K A.d_law_value ["kind", "row"] []
  g_law_value : mg "_law_value" = some (.ref A.f_law_value)
  k_law_value : PySem.W.keepIn K (.ref A.f_law_value) = true
  F_law_kind : Fun K "_law_kind" "_law_kind" s__law_kind A.f_law_kind A.d_law_kind
  b_law_kind : Binds K A.d_law_kind ["digit"] []
  g_law_kind : mg "_law_kind" = some (.ref A.f_law_kind)
  k_law_kind : PySem.W.keepIn K (.ref A.f_law_kind) = true
  Flaw : Fun K "law" "law" s_law A.flaw A.dlaw
  blaw : Binds K A.dlaw ["script"] []
  glaw : mg "law" = some (.ref A.flaw)
  klaw : PySem.W.keepIn K (.ref A.flaw) = true
  all : mg "all" = none
  any : mg "any" = none
  bool : mg "bool" = none
  int : mg "int" = none
  isinstance : mg "isinstance" = none
  len : mg "len" = none
  list : mg "list" = none
  max : mg "max" = none
  min : mg "min" = none
  ord : mg "ord" = none
  range : mg "range" = none
  str : mg "str" = none
  sum : mg "sum" = none
  tuple : mg "tuple" = none
  gGREATEST_NUMBER : mg "GREATEST_NUMBER" = some (.int (4294967295) A.tGREATEST_NUMBER)
  gLEAST_INT : mg "LEAST_INT" = some (.int (-2147483648) A.tLEAST_INT)
  gGREATEST_INT : mg "GREATEST_INT" = some (.int (2147483647) A.tGREATEST_INT)
  gLONGEST_TEXT : mg "LONGEST_TEXT" = some (.int (1000) A.tLONGEST_TEXT)
  gMOST_OCTETS : mg "MOST_OCTETS" = some (.int (16384) A.tMOST_OCTETS)
  g_FIRST_CODE : mg "_FIRST_CODE" = some (.int (32) A.t_FIRST_CODE)
  g_LAST_CODE : mg "_LAST_CODE" = some (.int (126) A.t_LAST_CODE)
  g_PERCENT_CODE : mg "_PERCENT_CODE" = some (.int (37) A.t_PERCENT_CODE)
  g_CHARACTERS : mg "_CHARACTERS" = some (.str " !\"#$ &'()*+,-./0123456789:;<=>?@ABCDEFGHIJKLMNOPQRSTUVWXYZ[\\]^_`abcdefghijklmnopqrstuvwxyz{|}~" A.t_CHARACTERS)
  gBadMessage : mg "BadMessage" = some (.ref A.CBadMessage)
  xBadMessage : PySem.W.excIn K A.CBadMessage [.type "ValueError", .type "Exception", .type "BaseException", .type "object"] "ValueError.__new__" = true
  kBadMessage : PySem.W.keepIn K (.ref A.CBadMessage) = true
  bxBadMessage : PySem.W.subIn K (.ref A.CBadMessage) (.type "BaseException") = some true
  txBadMessage : PySem.W.typeIn K (.ref A.CBadMessage) = some (.type "type")
  exBadMessage : PySem.W.exmOne K (.ref A.CBadMessage) (.ref A.CBadMessage) = some true
  gBadLength : mg "BadLength" = some (.ref A.CBadLength)
  xBadLength : PySem.W.excIn K A.CBadLength [.type "ValueError", .type "Exception", .type "BaseException", .type "object"] "ValueError.__new__" = true
  kBadLength : PySem.W.keepIn K (.ref A.CBadLength) = true
  bxBadLength : PySem.W.subIn K (.ref A.CBadLength) (.type "BaseException") = some true
  txBadLength : PySem.W.typeIn K (.ref A.CBadLength) = some (.type "type")
  exBadLength : PySem.W.exmOne K (.ref A.CBadLength) (.ref A.CBadLength) = some true
  gBadText : mg "BadText" = some (.ref A.CBadText)
  xBadText : PySem.W.excIn K A.CBadText [.type "ValueError", .type "Exception", .type "BaseException", .type "object"] "ValueError.__new__" = true
  kBadText : PySem.W.keepIn K (.ref A.CBadText) = true
  bxBadText : PySem.W.subIn K (.ref A.CBadText) (.type "BaseException") = some true
  txBadText : PySem.W.typeIn K (.ref A.CBadText) = some (.type "type")
  exBadText : PySem.W.exmOne K (.ref A.CBadText) (.ref A.CBadText) = some true
  gBadPadding : mg "BadPadding" = some (.ref A.CBadPadding)
  xBadPadding : PySem.W.excIn K A.CBadPadding [.type "ValueError", .type "Exception", .type "BaseException", .type "object"] "ValueError.__new__" = true
  kBadPadding : PySem.W.keepIn K (.ref A.CBadPadding) = true
  bxBadPadding : PySem.W.subIn K (.ref A.CBadPadding) (.type "BaseException") = some true
  txBadPadding : PySem.W.typeIn K (.ref A.CBadPadding) = some (.type "type")
  exBadPadding : PySem.W.exmOne K (.ref A.CBadPadding) (.ref A.CBadPadding) = some true
  gObjectMissing : mg "ObjectMissing" = some (.ref A.CObjectMissing)
  xObjectMissing : PySem.W.excIn K A.CObjectMissing [.type "ValueError", .type "Exception", .type "BaseException", .type "object"] "ValueError.__new__" = true
  kObjectMissing : PySem.W.keepIn K (.ref A.CObjectMissing) = true
  bxObjectMissing : PySem.W.subIn K (.ref A.CObjectMissing) (.type "BaseException") = some true
  txObjectMissing : PySem.W.typeIn K (.ref A.CObjectMissing) = some (.type "type")
  exObjectMissing : PySem.W.exmOne K (.ref A.CObjectMissing) (.ref A.CObjectMissing) = some true
section
variable {P : Program} {w : World} {K : PySem.W.Frag} {mg : Str → Option Value} {base : Heap} {A : Adr}
/-! ### common: tests, errors, small words -/
theorem exm_self {K : PySem.W.Frag} {S : Addr} (h1 : PySem.W.subIn K (.ref S) (.type "BaseException") = some true) (h2 : PySem.W.isClsIn K S = true) (h3 : PySem.W.typeIn K (.ref S) = some (.type "type")) (h4 : PySem.W.subIn K (.ref S) (.ref S) = some true) :
    PySem.W.exmOne K (.ref S) (.ref S) = some true := by
  have g1 : (PySem.W.subIn K (.ref S) (.type "BaseException") == some true) = true := by rw [h1]; rfl
  have g0 : (PySem.W.clsIn K S).isSome = true := h2
  have g2 : ((PySem.W.clsIn K S).isSome && PySem.W.typeIn K (.ref S) == some (.type "type")) = true := by rw [g0, h3]; rfl
  show (if (PySem.W.subIn K (.ref S) (.type "BaseException") == some true) = true then (if ((PySem.W.clsIn K S).isSome && PySem.W.typeIn K (.ref S) == some (.type "type")) = true then PySem.W.subIn K (.ref S) (.ref S) else none) else none) = some true
  rw [if_pos g1, if_pos g2]
  exact h4
theorem exm_cross {K : PySem.W.Frag} {S R : Addr} {b : Bool} (h1 : PySem.W.subIn K (.ref S) (.type "BaseException") = some true) (h2 : PySem.W.isClsIn K S = true) (h3 : PySem.W.typeIn K (.ref S) = some (.type "type")) (h4 : PySem.W.subIn K (.ref R) (.ref S) = some b) :
    PySem.W.exmOne K (.ref R) (.ref S) = some b := by
  have g1 : (PySem.W.subIn K (.ref S) (.type "BaseException") == some true) = true := by rw [h1]; rfl
  have g0 : (PySem.W.clsIn K S).isSome = true := h2
  have g2 : ((PySem.W.clsIn K S).isSome && PySem.W.typeIn K (.ref S) == some (.type "type")) = true := by rw [g0, h3]; rfl
  show (if (PySem.W.subIn K (.ref S) (.type "BaseException") == some true) = true then (if ((PySem.W.clsIn K S).isSome && PySem.W.typeIn K (.ref S) == some (.type "type")) = true then PySem.W.subIn K (.ref R) (.ref S) else none) else none) = some b
  rw [if_pos g1, if_pos g2]
  exact h4
/-- the law's own promise -/
def sp_law (K : PySem.W.Frag) : Sp := fun vs H Q _ => ∃ (a : Addr) (ns : List Int), vs = [.ref a] ∧ SqL K H a (ns.map V.int) ∧ ns.length ≤ 63 ∧ ∀ H', Q (.bl true) H'
theorem iteP {p A B : Prop} [Decidable p] (h1 : p → A) (h2 : ¬ p → B) : if decide p = true then A else B := by
  by_cases h : p
  · rw [decide_eq_true h]; exact iteT (h1 h)
  · rw [decide_eq_false h]; exact iteF (h2 h)
theorem iteN {p A B : Prop} [Decidable p] (h1 : ¬ p → A) (h2 : p → B) : if (!decide p) = true then A else B := by
  by_cases h : p
  · rw [decide_eq_true h]; exact iteF (h2 h)
  · rw [decide_eq_false h]; exact iteT (h1 h)
theorem iteEq {i j : Int} {A B : Prop} (h1 : i = j → A) (h2 : i ≠ j → B) : if decide (V.int i = V.int j) = true then A else B :=
  iteP (fun h => h1 (V.int.inj h)) (fun h => h2 fun e => h (congrArg V.int e))
theorem iteNe {i j : Int} {A B : Prop} (h1 : i ≠ j → A) (h2 : i = j → B) : if (!decide (V.int i = V.int j)) = true then A else B :=
  iteN (fun h => h1 fun e => h (congrArg V.int e)) (fun h => h2 (V.int.inj h))
theorem if_t {b : Bool} {A B : Prop} (e : b = true) (h : A) : if b = true then A else B := by rw [if_pos e]; exact h
theorem if_f {b : Bool} {A B : Prop} (e : b = false) (h : B) : if b = true then A else B := by rw [e]; exact iteF h
theorem if_b {b : Bool} {A B : Prop} (h1 : b = true → A) (h2 : b = false → B) : if b = true then A else B := by
  cases b with
  | true => exact iteT (h1 rfl)
  | false => exact iteF (h2 rfl)
theorem same_upd {H : Hp} {p : Addr} {o : HO} (h : H p = none) : Same H (upd H p o) := fun b x e => by
  rw [upd_ne (ne_of_none e h)]
  exact e
theorem len_line {n : Nat} (h : n ≤ 100000) : n ≤ sizeLine := Nat.le_trans h (by decide)
theorem lt_line {n : Nat} (h : n < 100000) : n < sizeLine := Nat.lt_of_lt_of_le h (by decide)
local macro_rules | `(tactic| walk_at "rd") => `(tactic| repeat (first
  | refine ⟨_, rfl, ?_⟩
  | refine ⟨_, _, rfl, rfl, ?_⟩
  | refine ⟨rfl, ?_⟩
  | refine Or.inl ⟨_, rfl, ?_⟩
  | refine ⟨(by show (0 : Int) < _; decide), ?_⟩
  | refine ⟨(⟨by decide, by decide⟩ : CDiv _ _), ?_⟩
  | refine ⟨(Or.inl ⟨by decide, by decide⟩ : CMul _ _), ?_⟩
  | refine ⟨(Or.inr ⟨by decide, by decide⟩ : CMul _ _), ?_⟩))
/-! ### data that are compared -/
def Sh (n : Nat) (d : PyData) : Prop := d.canLay0 = true ∧ d.depth ≤ n
theorem Sh.mono {n m : Nat} {d : PyData} (h : Sh n d) (l : n ≤ m) : Sh m d := ⟨h.1, Nat.le_trans h.2 l⟩
theorem sh_all : ∀ {n : Nat} {ds : List PyData}, (∀ d ∈ ds, Sh n d) → PyData.canLayAll0 ds = true ∧ PyData.depthAll ds ≤ n
  | n, [], _ => ⟨by simp [PyData.canLayAll0], by simp [PyData.depthAll]⟩
  | n, d :: ds, h => by
    have h1 := h d List.mem_cons_self
    have h2 := sh_all fun e he => h e (List.mem_cons_of_mem _ he)
    refine ⟨?_, ?_⟩
    · simp only [PyData.canLayAll0, Bool.and_eq_true]; exact ⟨h1.1, h2.1⟩
    · simp only [PyData.depthAll]; exact Nat.max_le.mpr ⟨h1.2, h2.2⟩
theorem sh_list {n : Nat} {ds : List PyData} (h : ∀ d ∈ ds, Sh n d) : Sh (n + 1) (.list ds) := by
  have q := sh_all h
  exact ⟨by simp only [PyData.canLay0]; exact q.1, by simp only [PyData.depth]; exact Nat.succ_le_succ q.2⟩
theorem sh_tuple {n : Nat} {ds : List PyData} (h : ∀ d ∈ ds, Sh n d) : Sh (n + 1) (.tuple ds) := by
  have q := sh_all h
  exact ⟨by simp only [PyData.canLay0]; exact q.1, by simp only [PyData.depth]; exact Nat.succ_le_succ q.2⟩
theorem sh_int (i : Int) : Sh 0 (.int i) := ⟨by simp [PyData.canLay0], by simp [PyData.depth]⟩
theorem sh_bool (i : Bool) : Sh 0 (.bool i) := ⟨by simp [PyData.canLay0], by simp [PyData.depth]⟩
theorem sh_none : Sh 0 .none := ⟨by simp [PyData.canLay0], by simp [PyData.depth]⟩
theorem sh_str {s : Str} (h : PyData.strOk s = true) : Sh 0 (.str s) := ⟨by simp only [PyData.canLay0]; exact h, by simp [PyData.depth]⟩
theorem Sh.shaped {n : Nat} {d : PyData} (h : Sh n d) (l : n ≤ 64 := by decide) : SeqAt.shaped d = true := by
  show (d.canLay0 && decide (d.depth ≤ 64)) = true
  rw [h.1, decide_eq_true (Nat.le_trans h.2 l)]
  rfl
theorem Sh.self {n : Nat} {d : PyData} (h : Sh n d) : PyData.eqv d d = true := SeqAt.eqv_refl d h.1
def pInts (xs : List Int) : PyData := .list (xs.map PyData.int)
theorem sh_ints (xs : List Int) : Sh 1 (pInts xs) := sh_list fun d hd => by
  obtain ⟨i, _, rfl⟩ := List.mem_map.mp hd
  exact sh_int i
theorem dpall_ints {K : PySem.W.Frag} {H : Hp} : ∀ xs : List Int, DpAll K H (xs.map V.int) (xs.map PyData.int)
  | [] => .nil
  | x :: r => .cons (.int x) (dpall_ints r)
theorem dp_ints {K : PySem.W.Frag} {H : Hp} {p : Addr} {xs : List Int} (h : SqL K H p (xs.map V.int)) : Dp K H (.ref p) (pInts xs) := .lst h (dpall_ints xs)
/-! ### views: what is new, what stands -/
structure Ext (V H V' H' : Hp) : Prop where
  vv : Same V V'
  vh : Same V' H'
  hh : Same H H'
  nw : ∀ a, V' a ≠ none → V a ≠ none ∨ H a = none
theorem Ext.refl {V H : Hp} (h : Same V H) : Ext V H V H := ⟨Same.refl V, h, Same.refl H, fun _ h => Or.inl h⟩
theorem Ext.trans {V H V1 H1 V2 H2 : Hp} (a : Ext V H V1 H1) (b : Ext V1 H1 V2 H2) : Ext V H V2 H2 :=
  ⟨a.vv.trans b.vv, b.vh, a.hh.trans b.hh, fun x h => by
    rcases b.nw x h with q | q
    · exact a.nw x q
    · exact Or.inr (a.hh.free q)⟩
theorem none_of_same {V H : Hp} {p : Addr} (s : Same V H) (h : H p = none) : V p = none := s.free h
theorem Ext.new {V H : Hp} {p : Addr} {o : HO} (s : Same V H) (h : H p = none) : Ext V H (upd V p o) (upd H p o) :=
  ⟨same_upd (s.free h), fun b u e => by
    by_cases hb : b = p
    · subst hb; rw [upd_same] at e ⊢; exact e
    · rw [upd_ne hb] at e ⊢; exact s b u e, same_upd h, fun a e => by
    by_cases ha : a = p
    · subst ha; exact Or.inr h
    · rw [upd_ne ha] at e; exact Or.inl e⟩
/-- a new object that the view does not take in -/
theorem Ext.skip {V H : Hp} {p : Addr} {o : HO} (s : Same V H) (h : H p = none) : Ext V H V (upd H p o) :=
  ⟨Same.refl V, s.trans (same_upd h), same_upd h, fun _ e => Or.inl e⟩
theorem Ext.keepOut {V H V' H' : Hp} (x : Ext V H V' H') {D : Addr} (h : V D = none) (hd : H D ≠ none) : V' D = none := by
  cases e : V' D with
  | none => rfl
  | some o =>
    rcases x.nw D (by rw [e]; exact fun z => by cases z) with q | q
    · exact absurd h q
    · exact absurd q hd
/-- an object outside of the view changes -/
theorem Ext.poke {V H V' H' : Hp} (x : Ext V H V' H') {D : Addr} {o : HO} (hd : H D = none) (h : V' D = none) : Ext V H V' (upd H' D o) :=
  ⟨x.vv, fun b u e => by
    have hb : b ≠ D := fun z => by rw [z, h] at e; cases e
    rw [upd_ne hb]; exact x.vh b u e, fun b u e => by
    have hb : b ≠ D := ne_of_none e hd
    rw [upd_ne hb]; exact x.hh b u e, x.nw⟩
/-- the object at D, done, is taken in -/
theorem Ext.take {V H V' H' : Hp} (x : Ext V H V' H') {D : Addr} {o : HO} (hd : H D = none) (h : V' D = none) (e : H' D = some o) : Ext V H (upd V' D o) H' :=
  ⟨x.vv.trans (same_upd h), fun b u q => by
    by_cases hb : b = D
    · subst hb; rw [upd_same] at q; rw [e]; exact q
    · rw [upd_ne hb] at q; exact x.vh b u q, x.hh, fun a q => by
    by_cases ha : a = D
    · subst ha; exact Or.inr hd
    · rw [upd_ne ha] at q; exact x.nw a q⟩
theorem _root_.L2.Same.sqt {K : PySem.W.Frag} {H H' : Hp} {a : Addr} {xs : List V} (e : Same H H') (h : SqT K H a xs) : SqT K H' a xs := by
  rcases h with (h | ⟨o, h⟩) | h
  · exact .inl (.inl (e _ _ h))
  · exact .inl (.inr ⟨o, e _ _ h⟩)
  · exact .inr h
mutual
theorem dp_same {K : PySem.W.Frag} {H H' : Hp} (s : Same H H') : ∀ (d : PyData) (v : V), Dp K H v d → Dp K H' v d
  | .none, _, h => by cases h; exact .non
  | .bool b, _, h => by cases h; exact .bl b
  | .int i, _, h => by cases h; exact .int i
  | .str x, _, h => by cases h; exact .str x
  | .list ds, _, h => by
    cases h with
    | lst q r => exact .lst (s.seq q) (dpall_same s ds _ r)
  | .tuple ds, _, h => by
    cases h with
    | tup q r => exact .tup (s.sqt q) (dpall_same s ds _ r)
  | .dict _, _, h => by cases h
theorem dpall_same {K : PySem.W.Frag} {H H' : Hp} (s : Same H H') : ∀ (ds : List PyData) (vs : List V), DpAll K H vs ds → DpAll K H' vs ds
  | [], _, h => by cases h; exact .nil
  | d :: ds, _, h => by
    cases h with
    | cons q r => exact .cons (dp_same s d _ q) (dpall_same s ds _ r)
end
theorem _root_.L2.Dp.to {K : PySem.W.Frag} {H H' : Hp} {v : V} {d : PyData} (h : Dp K H v d) (s : Same H H') : Dp K H' v d := dp_same s d v h
theorem _root_.L2.DpAll.to {K : PySem.W.Frag} {H H' : Hp} {v : List V} {d : List PyData} (h : DpAll K H v d) (s : Same H H') : DpAll K H' v d := dpall_same s d v h
theorem dpall_len {K : PySem.W.Frag} {H : Hp} : ∀ {vs : List V} {ds : List PyData}, DpAll K H vs ds → vs.length = ds.length
  | _, [], h => by cases h; rfl
  | _, d :: ds, h => by
    cases h with
    | cons q r => exact congrArg (· + 1) (dpall_len r)
theorem dpall_get {K : PySem.W.Frag} {H : Hp} : ∀ {vs : List V} {ds : List PyData} {i : Nat} {v : V}, DpAll K H vs ds → vs[i]? = some v → ∃ d, ds[i]? = some d ∧ Dp K H v d
  | _, [], i, v, h, e => by cases h; cases e
  | _, d :: ds, i, v, h, e => by
    cases h with
    | cons q r =>
      match i, e with
      | 0, e => cases e; exact ⟨d, rfl, q⟩
      | i + 1, e => exact dpall_get (i := i) r e
theorem dpall_get' {K : PySem.W.Frag} {H : Hp} : ∀ {vs : List V} {ds : List PyData} {i : Nat} {d : PyData}, DpAll K H vs ds → ds[i]? = some d → ∃ v, vs[i]? = some v ∧ Dp K H v d
  | _, [], i, d, h, e => by cases e
  | _, d :: ds, i, d', h, e => by
    cases h with
    | cons q r =>
      match i, e with
      | 0, e => cases e; exact ⟨_, rfl, q⟩
      | i + 1, e => exact dpall_get' (i := i) r e
theorem dpall_app {K : PySem.W.Frag} {H : Hp} : ∀ {vs ws : List V} {ds es : List PyData}, DpAll K H vs ds → DpAll K H ws es → DpAll K H (vs ++ ws) (ds ++ es)
  | _, _, [], _, h, g => by cases h; exact g
  | _, _, d :: ds, _, h, g => by
    cases h with
    | cons q r => exact .cons q (dpall_app r g)
theorem dp_list {K : PySem.W.Frag} {H : Hp} {v : V} {ds : List PyData} (h : Dp K H v (.list ds)) : ∃ a xs, v = .ref a ∧ SqL K H a xs ∧ DpAll K H xs ds := by
  cases h with
  | lst q r => exact ⟨_, _, rfl, q, r⟩
theorem dp_tuple {K : PySem.W.Frag} {H : Hp} {v : V} {ds : List PyData} (h : Dp K H v (.tuple ds)) : ∃ a xs, v = .ref a ∧ SqT K H a xs ∧ DpAll K H xs ds := by
  cases h with
  | tup q r => exact ⟨_, _, rfl, q, r⟩
theorem dp_int {K : PySem.W.Frag} {H : Hp} {v : V} {i : Int} (h : Dp K H v (.int i)) : v = .int i := by cases h; rfl
theorem dp_str {K : PySem.W.Frag} {H : Hp} {v : V} {i : Str} (h : Dp K H v (.str i)) : v = .str i := by cases h; rfl
theorem dp_bool {K : PySem.W.Frag} {H : Hp} {v : V} {i : Bool} (h : Dp K H v (.bool i)) : v = .bl i := by cases h; rfl
/-! ### comprehensions over any walk -/
def fm {α : Type} (f : Nat → Option α) (n : Nat) : List α := (List.range n).filterMap f
theorem fm_succ {α : Type} (f : Nat → Option α) (n : Nat) : fm f (n + 1) = fm f n ++ (f n).toList := by
  unfold fm
  rw [List.range_succ, List.filterMap_append]
  congr 1
theorem fm_len {α : Type} (f : Nat → Option α) (n : Nat) : (fm f n).length ≤ n := by
  have h := List.length_filterMap_le f (List.range n)
  rw [List.length_range] at h
  exact h
structure LcInv (K : PySem.W.Frag) (V0 H0 : Hp) (D : Addr) (acc : List PyData) (H : Hp) : Prop where
  ex : ∃ V xs, Ext V0 H0 V H ∧ V D = none ∧ H D = some (.lst xs) ∧ DpAll K V xs acc
theorem LcInv.start {K : PySem.W.Frag} {V0 H0 : Hp} {D : Addr} (s : Same V0 H0) (hD : H0 D = none) : LcInv K V0 H0 D [] (upd H0 D (.lst [])) :=
  ⟨V0, [], Ext.skip s hD, s.free hD, upd_same, .nil⟩
theorem LcInv.done {K : PySem.W.Frag} {V0 H0 H : Hp} {D : Addr} {acc : List PyData} (hD : H0 D = none) (i : LcInv K V0 H0 D acc H) : ∃ U xs, Ext V0 H0 U H ∧ U D = some (.lst xs) ∧ DpAll K U xs acc ∧ Dp K U (.ref D) (.list acc) := by
  obtain ⟨V, xs, x, hv, hd, dp⟩ := i.ex
  exact ⟨_, xs, x.take hD hv hd, upd_same, dp.to (same_upd hv), .lst (SqL.of upd_same) (dp.to (same_upd hv))⟩
/-- one more item -/
theorem LcInv.push {K : PySem.W.Frag} {V0 H0 U H U' H' : Hp} {D : Addr} {acc : List PyData} {xs : List V} {y : V} {d : PyData} (hD : H0 D = none) (x : Ext V0 H0 U H) (hv : U D = none) (hd : H D = some (.lst xs)) (dp : DpAll K U xs acc)
    (x2 : Ext U H U' H') (e : Dp K U' y d) (hl : acc.length < 100000) :
    ∃ acc', H' D = some (.lst acc') ∧ acc'.length < sizeLine ∧ LcInv K V0 H0 D (acc ++ [d]) (upd H' D (.lst (acc' ++ [y]))) := by
  have hv' : U' D = none := x2.keepOut hv (by rw [hd]; exact fun z => by cases z)
  refine ⟨xs, x2.hh _ _ hd, lt_line (by rw [dpall_len dp]; exact hl), U', xs ++ [y], (x.trans x2).poke hD hv', hv', upd_same, dpall_app (dp.to x2.vv) (.cons e .nil)⟩
/-- a comprehension's reading over a walk that leaves the heap as it is: at turn i the item x, then f i: the data of what is put in, or none -/
theorem lc_dp0 {J : It} {n : Nat} {G : Hp → Prop} {Y : Nat → Hp → V → Hp → Prop} (wk : Walk J n G Y) {K : PySem.W.Frag} {V0 H0 : Hp} {D : Addr} {g : TG} {tt : TT} {te : TE} {vs : List Nat} {σ : St} {Qd : Hp → Prop} (f : Nat → Option PyData) (σ0 : St) (hσ : wipe σ vs = σ0) (s0 : Same V0 H0) (hD : H0 D = none) (hn : n < 100000)
    (hG : ∀ H, Same H0 H → G H) (hY : ∀ i H x H', Y i H x H' → H' = H)
    (hs : ∀ i x V H, i < n → Ext V0 H0 V H → Y i H x H → ∀ (Qy : VK) (Qn : Hp → Prop), (∀ d y V' H', f i = some d → Ext V H V' H' → Dp K V' y d → Qy y H') → (f i = none → ∀ V' H', Ext V H V' H' → Qn H') →
      g x σ0 H fun σ2 H2 => wipe σ2 vs = σ0 ∧ tt σ2 H2 fun b H3 => if b = true then te σ2 H3 Qy else Qn H3)
    (hd : ∀ (U H : Hp) (xs : List V), Ext V0 H0 U H → U D = none → H D = some (.lst xs) → DpAll K U xs (fm f n) → Qd H) :
    ∃ W : Nat → Nat → Hp → Prop, (∃ m, W 0 m (upd H0 D (.lst []))) ∧ ∀ i m H, W i m H →
      (J.stop i H ∧ Qd H) ∨ (J.go i H ∧ ∃ Nx : Hp → Prop, (∀ H', Nx H' → ∃ m', m' < m ∧ W (i + 1) m' H') ∧ ∀ x H', J.yld i H x H' → g x (wipe σ vs) H' fun σ2 H2 => wipe σ2 vs = wipe σ vs ∧ tt σ2 H2 fun b H3 =>
        if b = true then te σ2 H3 fun y H4 => ∃ acc, H4 D = some (.lst acc) ∧ acc.length < sizeLine ∧ Nx (upd H4 D (.lst (acc ++ [y]))) else Nx H3) := by
  subst hσ
  refine lc_it wk (fun i H => LcInv K V0 H0 D (fm f i) H) (LcInv.start s0 hD) (fun i H _ p => ?_) (fun i x H H' hi p y => ?_) (fun H p => ?_)
  · obtain ⟨V, xs, x, _⟩ := p.ex
    exact hG H x.hh
  · obtain ⟨V, xs, x0, hv, hdd, dp⟩ := p.ex
    obtain rfl := hY i H x H' y
    refine hs i x V H' hi x0 y _ _ (fun d y' V' H4 e x2 dy => ?_) (fun e V' H4 x2 => ?_)
    · have hl : (fm f i).length < 100000 := Nat.lt_of_le_of_lt (fm_len f i) (Nat.lt_trans hi hn)
      obtain ⟨acc', a1, a2, a3⟩ := LcInv.push hD x0 hv hdd dp x2 dy hl
      refine ⟨acc', a1, a2, ?_⟩
      rw [fm_succ, e]
      exact a3
    · have hv' : V' D = none := x2.keepOut hv (by rw [hdd]; exact fun z => by cases z)
      rw [fm_succ, e]
      show LcInv K V0 H0 D (fm f i ++ []) H4
      rw [List.append_nil]
      exact ⟨V', xs, x0.trans x2, hv', x2.hh _ _ hdd, dp.to x2.vv⟩
  · obtain ⟨U, xs, x, hv, hdd, dp⟩ := p.ex
    exact hd U H xs x hv hdd dp
/-- a comprehension's reading over a walk that leaves the heap as it is: at turn i the item x, then f i: the data of what is put in, or none -/
theorem lc_dp {J : It} {n : Nat} {G : Hp → Prop} {Y : Nat → Hp → V → Hp → Prop} (wk : Walk J n G Y) {K : PySem.W.Frag} {V0 H0 : Hp} {D : Addr} {g : TG} {tt : TT} {te : TE} {vs : List Nat} {σ : St} {Qd : Hp → Prop} (f : Nat → Option PyData) (σ0 : St) (hσ : wipe σ vs = σ0) (s0 : Same V0 H0) (hD : H0 D = none) (hn : n < 100000)
    (hG : ∀ H, Same H0 H → G H) (hY : ∀ i H x H', Y i H x H' → H' = H)
    (hs : ∀ i x V H, i < n → Ext V0 H0 V H → Y i H x H → ∀ (Qy : VK) (Qn : Hp → Prop), (∀ d y V' H', f i = some d → Ext V H V' H' → Dp K V' y d → Qy y H') → (f i = none → ∀ V' H', Ext V H V' H' → Qn H') →
      g x σ0 H fun σ2 H2 => wipe σ2 vs = σ0 ∧ tt σ2 H2 fun b H3 => if b = true then te σ2 H3 Qy else Qn H3)
    (hd : ∀ (U H : Hp) (xs : List V), Ext V0 H0 U H → U D = some (.lst xs) → DpAll K U xs (fm f n) → Dp K U (.ref D) (.list (fm f n)) → Qd H) :
    ∃ W : Nat → Nat → Hp → Prop, (∃ m, W 0 m (upd H0 D (.lst []))) ∧ ∀ i m H, W i m H →
      (J.stop i H ∧ Qd H) ∨ (J.go i H ∧ ∃ Nx : Hp → Prop, (∀ H', Nx H' → ∃ m', m' < m ∧ W (i + 1) m' H') ∧ ∀ x H', J.yld i H x H' → g x (wipe σ vs) H' fun σ2 H2 => wipe σ2 vs = wipe σ vs ∧ tt σ2 H2 fun b H3 =>
        if b = true then te σ2 H3 fun y H4 => ∃ acc, H4 D = some (.lst acc) ∧ acc.length < sizeLine ∧ Nx (upd H4 D (.lst (acc ++ [y]))) else Nx H3) := by
  refine lc_dp0 wk f σ0 hσ s0 hD hn hG hY hs fun U H xs x hv hdd dp => ?_
  exact hd _ H xs (x.take hD hv hdd) upd_same (dp.to (same_upd hv)) (.lst (SqL.of upd_same) (dp.to (same_upd hv)))
theorem fm_map {α β : Type} (f : α → β) : ∀ (xs : List α), fm (fun i => (xs[i]?).map f) xs.length = xs.map f := by
  intro xs
  have h : ∀ n, n ≤ xs.length → fm (fun i => (xs[i]?).map f) n = (xs.take n).map f := by
    intro n
    induction n with
    | zero => intro _; rfl
    | succ n ih =>
      intro hn
      rw [fm_succ, ih (by omega), List.getElem?_eq_getElem (by omega), List.take_succ_eq_append_getElem (by omega), List.map_append]
      rfl
  rw [h _ (Nat.le_refl _), List.take_length]

theorem lc2_outer {J : It} {n : Nat} {G : Hp → Prop} {Y : Nat → Hp → V → Hp → Prop} (wk : Walk J n G Y) {K : PySem.W.Frag} {V0 H0 : Hp} {D : Addr} {g : TG} {vs : List Nat} {σ : St} {body : St → Hp → (Hp → Prop) → Prop} {Qd : Hp → Prop} (F : Nat → List PyData) (σ0 : St) (hσ : wipe σ vs = σ0) (s0 : Same V0 H0) (hD : H0 D = none) (hF : F 0 = [])
    (hG : ∀ H, Same H0 H → G H) (hY : ∀ i H x H', Y i H x H' → H' = H)
    (hs : ∀ i x H, i < n → LcInv K V0 H0 D (F i) H → Y i H x H → ∀ Nx : Hp → Prop, (∀ H', LcInv K V0 H0 D (F (i + 1)) H' → Nx H') → g x σ0 H fun σ2 H2 => wipe σ2 vs = σ0 ∧ body σ2 H2 Nx)
    (hd : ∀ (U H : Hp) (xs : List V), Ext V0 H0 U H → U D = some (.lst xs) → DpAll K U xs (F n) → Dp K U (.ref D) (.list (F n)) → Qd H) :
    ∃ W : Nat → Nat → Hp → Prop, (∃ m, W 0 m (upd H0 D (.lst []))) ∧ ∀ i m H, W i m H →
      (J.stop i H ∧ Qd H) ∨ (J.go i H ∧ ∃ Nx : Hp → Prop, (∀ H', Nx H' → ∃ m', m' < m ∧ W (i + 1) m' H') ∧ ∀ x H', J.yld i H x H' → g x (wipe σ vs) H' fun σ2 H2 => wipe σ2 vs = wipe σ vs ∧ body σ2 H2 Nx) := by
  subst hσ
  refine ⟨fun i m H => m = n - i ∧ i ≤ n ∧ LcInv K V0 H0 D (F i) H, ⟨n, by simp, Nat.zero_le _, by rw [hF]; exact LcInv.start s0 hD⟩, ?_⟩
  rintro i m H ⟨rfl, hi, p⟩
  have sH : Same H0 H := by obtain ⟨_, _, x, _⟩ := p.ex; exact x.hh
  by_cases hlt : i < n
  · refine .inr ⟨wk.goes i H hlt (hG H sH), fun H' => LcInv K V0 H0 D (F (i + 1)) H', fun H' p' => ⟨n - (i + 1), by omega, rfl, hlt, p'⟩, fun x H' y => ?_⟩
    have y' := wk.yields i H x H' hlt (hG H sH) y
    obtain rfl := hY i H x H' y'
    exact hs i x H' hlt p y' _ fun _ h => h
  · have e : i = n := by omega
    subst e
    obtain ⟨U, xs, x, e1, e2, e3⟩ := p.done hD
    exact .inl ⟨wk.stops H (hG H sH), hd U H xs x e1 e2 e3⟩
theorem lc2_inner {J : It} {n : Nat} {G : Hp → Prop} {Y : Nat → Hp → V → Hp → Prop} (wk : Walk J n G Y) {K : PySem.W.Frag} {V0 H0 H4 : Hp} {D : Addr} {acc0 : List PyData} {g : TG} {tt : TT} {te : TE} {vs : List Nat} {σ : St} {Nx : Hp → Prop} (f : Nat → Option PyData) (σ0 : St) (hσ : wipe σ vs = σ0) (hD : H0 D = none)
    (inv : LcInv K V0 H0 D acc0 H4) (hn : acc0.length + n < 100000) (hG : ∀ H, Same H0 H → G H) (hY : ∀ i H x H', Y i H x H' → H' = H)
    (hs : ∀ i x V H, i < n → Ext V0 H0 V H → Y i H x H → ∀ (Qy : VK) (Qn : Hp → Prop), (∀ d y V' H', f i = some d → Ext V H V' H' → Dp K V' y d → Qy y H') → (f i = none → ∀ V' H', Ext V H V' H' → Qn H') →
      g x σ0 H fun σ2 H2 => wipe σ2 vs = σ0 ∧ tt σ2 H2 fun b H3 => if b = true then te σ2 H3 Qy else Qn H3)
    (hd : ∀ H, LcInv K V0 H0 D (acc0 ++ fm f n) H → Nx H) :
    ∃ W : Nat → Nat → Hp → Prop, (∃ m, W 0 m H4) ∧ ∀ i m H, W i m H →
      (J.stop i H ∧ Nx H) ∨ (J.go i H ∧ ∃ Nx1 : Hp → Prop, (∀ H', Nx1 H' → ∃ m', m' < m ∧ W (i + 1) m' H') ∧ ∀ x H', J.yld i H x H' → g x (wipe σ vs) H' fun σ2 H2 => wipe σ2 vs = wipe σ vs ∧ tt σ2 H2 fun b H3 =>
        if b = true then te σ2 H3 fun y H4 => ∃ acc, H4 D = some (.lst acc) ∧ acc.length < sizeLine ∧ Nx1 (upd H4 D (.lst (acc ++ [y]))) else Nx1 H3) := by
  subst hσ
  refine ⟨fun i m H => m = n - i ∧ i ≤ n ∧ LcInv K V0 H0 D (acc0 ++ fm f i) H, ⟨n, by simp, Nat.zero_le _, by rw [show fm f 0 = [] from rfl, List.append_nil]; exact inv⟩, ?_⟩
  rintro i m H ⟨rfl, hi, p⟩
  have sH : Same H0 H := by obtain ⟨_, _, x, _⟩ := p.ex; exact x.hh
  by_cases hlt : i < n
  · refine .inr ⟨wk.goes i H hlt (hG H sH), fun H' => LcInv K V0 H0 D (acc0 ++ fm f (i + 1)) H', fun H' p' => ⟨n - (i + 1), by omega, rfl, hlt, p'⟩, fun x H' y => ?_⟩
    have y' := wk.yields i H x H' hlt (hG H sH) y
    obtain rfl := hY i H x H' y'
    obtain ⟨V, xs, x0, hv, hdd, dp⟩ := p.ex
    refine hs i x V H' hlt x0 y' _ _ (fun d y' V' H4 e x2 dy => ?_) (fun e V' H4 x2 => ?_)
    · have hl : (acc0 ++ fm f i).length < 100000 := by have := fm_len f i; rw [List.length_append]; omega
      obtain ⟨acc', a1, a2, a3⟩ := LcInv.push hD x0 hv hdd dp x2 dy hl
      refine ⟨acc', a1, a2, ?_⟩
      rw [fm_succ, e, ← List.append_assoc]
      exact a3
    · have hv' : V' D = none := x2.keepOut hv (by rw [hdd]; exact fun z => by cases z)
      rw [fm_succ, e]
      show LcInv K V0 H0 D (acc0 ++ (fm f i ++ [])) H4
      rw [List.append_nil]
      exact ⟨V', xs, x0.trans x2, hv', x2.hh _ _ hdd, dp.to x2.vv⟩
  · have e : i = n := by omega
    subst e
    exact .inl ⟨wk.stops H (hG H sH), hd H p⟩
theorem fm_some {α : Type} (f : Nat → α) (n : Nat) : fm (fun i => some (f i)) n = (List.range n).map f := by
  induction n with
  | zero => rfl
  | succ n ih => rw [fm_succ, ih, List.range_succ, List.map_append]; rfl
theorem fl_take' {α : Type} {β : Type} (f : α → List β) : ∀ (xs : List α) (i : Nat) (x : α), xs[i]? = some x → (xs.take (i + 1)).flatMap f = (xs.take i).flatMap f ++ f x := by
  intro xs i x h
  obtain ⟨hi, e⟩ := List.getElem?_eq_some_iff.mp h
  rw [List.take_succ_eq_append_getElem hi, List.flatMap_append, e]
  show _ ++ (f x ++ []) = _
  rw [List.append_nil]
theorem fl_le' {α : Type} {β : Type} (f : α → List β) (xs : List α) (i : Nat) : ((xs.take i).flatMap f).length ≤ (xs.flatMap f).length := by
  have : xs.flatMap f = (xs.take i).flatMap f ++ (xs.drop i).flatMap f := by rw [← List.flatMap_append, List.take_append_drop]
  rw [this, List.length_append]; omega
/-! ### lists of ints, texts -/
theorem tyL {K : PySem.W.Frag} {H : Hp} {a : Addr} {xs : List V} (h : SqL K H a xs) : TyX K H (.ref a) (.type "list") := by
  rcases h with (h | ⟨o, h⟩) | ⟨o, its, n, h, c, _⟩
  · exact .base (.lst h)
  · exact .base (.frz h)
  · exact .kList h c
theorem tyT {K : PySem.W.Frag} {H : Hp} {a : Addr} {xs : List V} (h : SqT K H a xs) : TyX K H (.ref a) (.type "tuple") := by
  rcases h with (h | ⟨o, h⟩) | ⟨o, its, n, h, c, _⟩
  · exact .base (.tup h)
  · exact .fTuple h
  · exact .kTuple h c
theorem dp_intsV {K : PySem.W.Frag} {H : Hp} : ∀ {xs : List V} {is : List Int}, DpAll K H xs (is.map PyData.int) → xs = is.map V.int
  | _, [], r => by cases r; rfl
  | _, i :: is, r => by
    cases r with
    | cons r1 r2 => cases r1; rw [dp_intsV r2]; rfl
theorem dp_intsL {K : PySem.W.Frag} {H : Hp} {a : Addr} {is : List Int} (h : Dp K H (.ref a) (.list (is.map PyData.int))) : SqL K H a (is.map V.int) := by
  obtain ⟨a', xs, e, q, r⟩ := dp_list h
  cases e
  rw [← dp_intsV r]; exact q
theorem dp_strsV {K : PySem.W.Frag} {H : Hp} : ∀ {xs : List V} {is : List Str}, DpAll K H xs (is.map PyData.str) → xs = is.map V.str
  | _, [], r => by cases r; rfl
  | _, i :: is, r => by
    cases r with
    | cons r1 r2 => cases r1; rw [dp_strsV r2]; rfl
theorem dp_boolsV {K : PySem.W.Frag} {H : Hp} : ∀ {xs : List V} {is : List Bool}, DpAll K H xs (is.map PyData.bool) → xs = is.map V.bl
  | _, [], r => by cases r; rfl
  | _, i :: is, r => by
    cases r with
    | cons r1 r2 => cases r1; rw [dp_boolsV r2]; rfl
theorem dp_boolsL {K : PySem.W.Frag} {H : Hp} {a : Addr} {is : List Bool} (h : Dp K H (.ref a) (.list (is.map PyData.bool))) : SqL K H a (is.map V.bl) := by
  obtain ⟨a', xs, e, q, r⟩ := dp_list h
  cases e
  rw [← dp_boolsV r]; exact q
theorem size_eq (z : Str) : z.cps.size = z.cps.toList.length := by simp
theorem cps_at (z : Str) (i : Nat) : z.cps[i]? = z.cps.toList[i]? := by simp
theorem fm_list {α β : Type} (f : α → β) (xs : List α) (n : Nat) (h : n = xs.length) (g : Nat → Option β) (hg : ∀ i x, xs[i]? = some x → g i = some (f x)) : fm g n = xs.map f := by
  subst h
  rw [← fm_map f xs]
  unfold fm
  have : ∀ l : List Nat, (∀ i ∈ l, i < xs.length) → l.filterMap g = l.filterMap fun i => (xs[i]?).map f := by
    intro l
    induction l with
    | nil => intro _; rfl
    | cons i l ih =>
      intro hl
      have hi' := hl i List.mem_cons_self
      rw [List.filterMap_cons, List.filterMap_cons, hg i _ (List.getElem?_eq_getElem hi'), List.getElem?_eq_getElem hi', ih fun j hj => hl j (List.mem_cons_of_mem _ hj)]
      rfl
  exact this _ fun i hi => List.mem_range.mp hi
theorem rep_flat {α : Type} (v : α) : ∀ n : Nat, (List.replicate n [v]).flatten = List.replicate n v
  | 0 => rfl
  | n + 1 => by rw [List.replicate_succ, List.replicate_succ, List.flatten_cons, rep_flat v n]; rfl
/-- a list's object that is tracked, at p, new -/
structure NewL (H H' : Hp) (p : Addr) (xs : List V) : Prop where
  new : H p = none
  same : Same H H'
  at_ : H' p = some (.lst xs)
theorem NewL.ext {U H H' : Hp} {p : Addr} {xs : List V} (n : NewL H H' p xs) (s : Same U H) : Ext U H (upd U p (.lst xs)) H' :=
  ⟨same_upd (s.free n.new), fun b u e => by
    by_cases hb : b = p
    · subst hb; rw [upd_same] at e; rw [n.at_]; exact e
    · rw [upd_ne hb] at e; exact n.same _ _ (s b u e), n.same, fun a e => by
    by_cases ha : a = p
    · subst ha; exact Or.inr n.new
    · rw [upd_ne ha] at e; exact Or.inl e⟩
theorem str_app (x y : Str) : (x ++ y).cps.toList = x.cps.toList ++ y.cps.toList := Array.toList_append
theorem str_len_app (x y : Str) : (x ++ y).length = x.length + y.length := by
  show (x ++ y).cps.size = x.cps.size + y.cps.size
  rw [size_eq, str_app, List.length_append, ← size_eq, ← size_eq]
/-! ### _law_cell, _law_row -/
def lawCell (ns : List Int) (k : Nat) : Int :=
  let c := if 0 < ns.length then ns.getD (k % ns.length) 0 else 0
  if c < 0 then 1 - 2 * c else c
theorem lawCell_nn (ns : List Int) (k : Nat) : 0 ≤ lawCell ns k := by
  unfold lawCell
  simp only
  split <;> omega
def lawOne (c : Int) (k : Nat) : Int := (c * 48271 + (k : Int) * 69621 + 12345) % 2147483647
def lawTwo (o : Int) (k : Nat) : Int := (o * o + 16807 * (k : Int) + 7) % 2147483629
def lawRow (ns : List Int) (k : Nat) : Int :=
  if k < ns.length ∧ 1000000000 ≤ lawCell ns k then lawCell ns k
  else (lawTwo (lawOne (lawCell ns k) k) k * lawTwo (lawOne (lawCell ns k) k) k + lawOne (lawCell ns k) k) % 4294967291 + 4294967296 * (lawOne (lawCell ns k) k + 1)
theorem lawOne_b (c : Int) (k : Nat) : 0 ≤ lawOne c k ∧ lawOne c k < 2147483647 := by unfold lawOne; omega
theorem lawTwo_b (c : Int) (k : Nat) : 0 ≤ lawTwo c k ∧ lawTwo c k < 2147483629 := by
  unfold lawTwo
  generalize c * c + 16807 * (k : Int) + 7 = x
  omega
theorem lawRow_nn (ns : List Int) (k : Nat) : 0 ≤ lawRow ns k := by
  unfold lawRow
  have h1 := lawOne_b (lawCell ns k) k
  split
  · exact lawCell_nn ns k
  · generalize lawTwo (lawOne (lawCell ns k) k) k * lawTwo (lawOne (lawCell ns k) k) k + lawOne (lawCell ns k) k = x
    omega
def sp__law_cell (K : PySem.W.Frag) : Sp := fun vs H Q _ => ∃ (a : Addr) (ns : List Int) (k : Nat), vs = [.ref a, .int (k : Int)] ∧ SqL K H a (ns.map V.int) ∧ Q (.int (lawCell ns k)) H
theorem sc__law_cell : FnScope ["script", "k", "cell"] ["script", "k"] (defScope s__law_cell) := ⟨rfl, rfl, rfl, by decide +kernel, rfl, by decide +kernel, by decide +kernel⟩
theorem ok__law_cell (T : Txt K mg A) : FnOk P w K mg base CX0 1 A.f_law_cell A.d_law_cell ["script", "k"] (sp__law_cell K) := by
  refine T.F_law_cell.ok sc__law_cell (fun vs H Q E h => ?_) (fun cdv Ar outer s H vs Q E hr h => ?_)
  · obtain ⟨a, ns, k, rfl, _⟩ := h
    rfl
  · obtain ⟨a, ns, k, rfl, hS, q⟩ := h
    refine ⟨_, (pss_cons (ps_set (i := 2) sc__law_cell.nd rfl (Or.inl rfl) pe_int)
      (pss_cons (ps_if (pt_cmpR op_gt (pe_callB call_len_seq (by rfl) T.len PySem.boot_len (pa_cons (pv 0) pa_nil)) pe_int (nomark _))
      (pss_one (ps_set (i := 2) sc__law_cell.nd rfl (Or.inl rfl) (pe_ix ix_list (pv 0) (pe_op op_mod (pe_callTy call_int1 (by rfl) T.int (by decide +kernel) (pa_cons (pv 1) pa_nil)) (pe_callB call_len_seq (by rfl) T.len PySem.boot_len (pa_cons (pv 0) pa_nil))) (fun _ _ => rfl))))
      pss_nil)
      (pss_cons (ps_if (pt_cmpR op_lt (pv 2) pe_int (nomark _))
      (pss_one (ps_set (i := 2) sc__law_cell.nd rfl (Or.inl rfl) (pe_op op_sub pe_int (pe_op op_mul pe_int (pv 2)))))
      pss_nil)
      (pss_one (ps_ret (pv 2)))))), ?_⟩
    have two : ∀ (c : Int), (if c < 0 then 1 - 2 * c else c) = lawCell ns k → tSeq (tIfS (tTest (tOp (rI0 fun i j => .bl (decide (i < j))) (tVar 2) (tC (.int 0)))) (tAsg (tOp (rI0 fun i j => .int (i - j)) (tC (.int 1)) (tOp (rI CMul fun i j => .int (i * j)) (tC (.int 2)) (tVar 2))) (gName 2)) tNext) (tRet (tVar 2))
        { nx := fun _ H' => Q .non H', rt := Q } [some (.ref a), some (.int (k : Int)), some (.int c)] H := by
      intro c hc
      walk_at "rd"
      refine iteP (fun h => ?_) (fun h => ?_)
      · rw [if_pos h] at hc
        walk_at "rd"
        rw [← hc] at q; exact q
      · rw [if_neg h] at hc
        walk_at "rd"
        rw [← hc] at q; exact q
    refine ⟨.ref a, rfl, a, _, rfl, .inl hS, _, _, rfl, rfl, _, rfl, iteP (fun h => ?_) (fun h => ?_)⟩
    · have h0 : 0 < ns.length := by rw [List.length_map] at h; omega
      refine ⟨_, rfl, _, rfl, Or.inl ⟨_, rfl, ?_⟩⟩
      refine ⟨_, rfl, a, _, rfl, .inl hS, _, _, rfl, rfl, by show (0 : Int) < _; omega, a, _, _, .int (ns.getD (k % ns.length) 0), rfl, rfl, hS, ?_, ?_⟩
      · refine at_of (j := k % ns.length) ?_ ?_
        · rw [List.length_map]; exact (Int.natCast_emod _ _).symm
        · rw [List.getElem?_map, List.getElem?_eq_getElem (Nat.mod_lt _ h0), List.getD_eq_getElem?_getD, List.getElem?_eq_getElem (Nat.mod_lt _ h0)]; rfl
      · refine two _ ?_
        unfold lawCell; rw [if_pos h0]
    · have h0 : ¬ 0 < ns.length := by rw [List.length_map] at h; omega
      refine two _ ?_
      unfold lawCell; rw [if_neg h0]
def sp__law_row (K : PySem.W.Frag) : Sp := fun vs H Q _ => ∃ (a : Addr) (ns : List Int) (k : Nat), vs = [.ref a, .int (k : Int)] ∧ SqL K H a (ns.map V.int) ∧ Q (.int (lawRow ns k)) H
theorem sc__law_row : FnScope ["script", "k", "cell", "one", "two"] ["script", "k"] (defScope s__law_row) := ⟨rfl, rfl, rfl, by decide +kernel, rfl, by decide +kernel, by decide +kernel⟩
theorem ok__law_row (T : Txt K mg A) : FnOk P w K mg base CX0 2 A.f_law_row A.d_law_row ["script", "k"] (sp__law_row K) := by
  refine T.F_law_row.ok sc__law_row (fun vs H Q E h => ?_) (fun cdv Ar outer s H vs Q E hr h => ?_)
  · obtain ⟨a, ns, k, rfl, _⟩ := h
    rfl
  · obtain ⟨a, ns, k, rfl, hS, q⟩ := h
    refine ⟨_, (pss_cons (ps_set (i := 2) sc__law_row.nd rfl (Or.inl rfl) (pe_call (ok__law_cell T) (hr.mono (by decide)) rfl T.g_law_cell T.k_law_cell T.b_law_cell .nil pass0 (pa_cons (pv 0) (pa_cons (pv 1) pa_nil))))
      (pss_cons (ps_if (PW.pt (pw_and (pt_cmpR op_lt (pv 1) (pe_callB call_len_seq (by rfl) T.len PySem.boot_len (pa_cons (pv 0) pa_nil)) (nomark _)) (pw_and1 (pt_cmpR op_ge (pv 2) pe_int (nomark _)))))
      (pss_one (ps_ret (pv 2)))
      pss_nil)
      (pss_cons (ps_set (i := 3) sc__law_row.nd rfl (Or.inl rfl) (pe_op op_mod (pe_callTy call_int1 (by rfl) T.int (by decide +kernel) (pa_cons (pe_op op_add (pe_op op_add (pe_op op_mul (pv 2) pe_int) (pe_op op_mul (pv 1) pe_int)) pe_int) pa_nil)) pe_int))
      (pss_cons (ps_set (i := 4) sc__law_row.nd rfl (Or.inl rfl) (pe_op op_mod (pe_callTy call_int1 (by rfl) T.int (by decide +kernel) (pa_cons (pe_op op_add (pe_op op_add (pe_op op_mul (pv 3) (pv 3)) (pe_op op_mul pe_int (pv 1))) pe_int) pa_nil)) pe_int))
      (pss_one (ps_ret (pe_op op_add (pe_op op_mod (pe_callTy call_int1 (by rfl) T.int (by decide +kernel) (pa_cons (pe_op op_add (pe_op op_mul (pv 4) (pv 4)) (pv 3)) pa_nil)) pe_int) (pe_op op_mul pe_int (pe_op op_add (pv 3) pe_int))))))))), ?_⟩
    have b1 := lawOne_b (lawCell ns k) k
    have b2 := lawTwo_b (lawOne (lawCell ns k) k) k
    have m1 : CMul (lawOne (lawCell ns k) k) (lawOne (lawCell ns k) k) := Or.inl ⟨by omega, by omega⟩
    have m2 : CMul (lawTwo (lawOne (lawCell ns k) k) k) (lawTwo (lawOne (lawCell ns k) k) k) := Or.inl ⟨by omega, by omega⟩
    refine ⟨_, rfl, _, rfl, a, ns, k, rfl, hS, ?_⟩
    refine ⟨_, rfl, _, rfl, a, _, rfl, .inl hS, _, _, rfl, rfl, _, rfl, ?_⟩
    refine iteP (fun h => ?_) (fun h => ?_)
    · refine ⟨_, rfl, _, _, rfl, rfl, _, rfl, iteP (fun h2 => ?_) (fun h2 => ?_)⟩
      · have e : lawRow ns k = lawCell ns k := by unfold lawRow; rw [if_pos ⟨by rw [List.length_map] at h; omega, h2⟩]
        rw [e] at q
        exact ⟨_, rfl, q⟩
      · unfold lawRow at q
        rw [if_neg fun z => h2 z.2] at q
        walk_at "rd"
        refine ⟨m1, ?_⟩
        walk_at "rd"
        refine ⟨m2, ?_⟩
        walk_at "rd"
        exact q
    · unfold lawRow at q
      rw [if_neg fun z => h (by rw [List.length_map]; omega)] at q
      walk_at "rd"
      refine ⟨m1, ?_⟩
      walk_at "rd"
      refine ⟨m2, ?_⟩
      walk_at "rd"
      exact q
/-! ### is_integer, number_octets -/
def sp_is_integer (K : PySem.W.Frag) : Sp := fun vs H Q _ => ∃ (i lo hi : Int), vs = [.int i, .int lo, .int hi] ∧ Q (.bl (decide (lo ≤ i ∧ i ≤ hi))) H
theorem sc_is_integer : FnScope ["value", "least", "greatest"] ["value", "least", "greatest"] (defScope s_is_integer) := ⟨rfl, rfl, rfl, by decide +kernel, rfl, by decide +kernel, by decide +kernel⟩
theorem ok_is_integer (T : Txt K mg A) : FnOk P w K mg base CX0 1 A.fis_integer A.dis_integer ["value", "least", "greatest"] (sp_is_integer K) := by
  refine T.Fis_integer.ok sc_is_integer (fun vs H Q E h => ?_) (fun cdv Ar outer s H vs Q E hr h => ?_)
  · obtain ⟨i, lo, hi, rfl, _⟩ := h
    rfl
  · obtain ⟨i, lo, hi, rfl, q⟩ := h
    refine ⟨_, (pss_one (ps_ret (pe_and (pe_callB call_isi (by rfl) T.isinstance (by decide +kernel) (pa_cons (pv 0) (pa_cons (pe_bltn (v := .ty "int") (by rfl) T.int (by decide +kernel) rfl) pa_nil))) (pe_and (pe_not (pe_callB call_isi (by rfl) T.isinstance (by decide +kernel) (pa_cons (pv 0) (pa_cons (pe_bltn (v := .ty "bool") (by rfl) T.bool (by decide +kernel) rfl) pa_nil)))) (pe_one (pe_chain op_le op_le (pv 1) (pv 0) (pv 2))))))), ?_⟩
    refine ⟨_, rfl, .int i, .ty "int", .type "int", .type "int", true, rfl, .ty _, .base (.int _), kit_ty (by decide +kernel), _, rfl, iteT ?_⟩
    refine ⟨_, rfl, .int i, .ty "bool", .type "int", .type "bool", false, rfl, .ty _, .base (.int _), kit_ty (by decide +kernel), _, rfl, _, rfl, iteT ?_⟩
    refine ⟨_, rfl, _, rfl, _, _, rfl, rfl, _, rfl, iteP (fun h => ?_) (fun h => ?_)⟩
    · refine ⟨_, rfl, _, _, rfl, rfl, ?_⟩
      have e : decide (lo ≤ i ∧ i ≤ hi) = decide (i ≤ hi) := by
        by_cases c : i ≤ hi
        · rw [decide_eq_true c, decide_eq_true ⟨h, c⟩]
        · rw [decide_eq_false c, decide_eq_false fun z => c z.2]
      rw [e] at q
      exact q
    · rw [decide_eq_false fun z => h z.1] at q
      exact q
def octs (n : Int) (c : Nat) : List Int := (List.range c).map fun k => n / 2 ^ (8 * k) % 256
theorem octs_len (n : Int) (c : Nat) : (octs n c).length = c := by unfold octs; rw [List.length_map, List.length_range]
theorem octs_succ (n : Int) (c : Nat) : octs n (c + 1) = octs n c ++ [n / 2 ^ (8 * c) % 256] := by
  unfold octs; rw [List.range_succ, List.map_append]; rfl
theorem and255 {x : Int} (h : 0 ≤ x) : Builtin.bitAnd x 255 = x % 256 := Bits.bitAnd_mask 8 h
/-- number_octets(n, c), n not negative, c small: a new list -/
def sp_number_octets (K : PySem.W.Frag) : Sp := fun vs H Q _ => ∃ (n : Int) (c : Nat), vs = [.int n, .int (c : Int)] ∧ 0 ≤ n ∧ c ≤ 1000 ∧
  ∀ p H', H p = none → Same H H' → H' p = some (.lst ((octs n c).map V.int)) → Q (.ref p) H'
theorem sc_number_octets : FnScope ["number", "count", "place"] ["number", "count"] (defScope s_number_octets) := ⟨rfl, rfl, rfl, by decide +kernel, rfl, by decide +kernel, by decide +kernel⟩
theorem ok_number_octets (T : Txt K mg A) : FnOk P w K mg base CX0 1 A.fnumber_octets A.dnumber_octets ["number", "count"] (sp_number_octets K) := by
  refine T.Fnumber_octets.ok sc_number_octets (fun vs H Q E h => ?_) (fun cdv Ar outer s H vs Q E hr h => ?_)
  · obtain ⟨n, c, rfl, _⟩ := h
    rfl
  · obtain ⟨n, c, rfl, hn, hc, q⟩ := h
    refine ⟨_, (pss_one (ps_ret (pe_lc (own := [("place", 2)]) (g := gName 2) (tt := tYes) rfl sc_number_octets.nd (pi_range1 (by rfl) T.range (pa_cons (pv 1) pa_nil)) (blkOk_by (own := [("place", 2)]) (N := ["number", "count", "place"]) (sc := defScope s_number_octets) (by decide +kernel)) (fun _ _ _ _ _ => (pg_name (i := 2) sc_number_octets.nd rfl (Or.inl rfl))) (fun _ _ _ _ _ => pts_nil) (fun _ _ _ _ _ => (pe_op op_and (pe_op op_shr (pv 0) (pe_op op_mul pe_int (pv 2))) pe_int))))), ?_⟩
    refine ⟨_, rfl, (c : Int), rfl, by omega, by omega, fun D hD => ?_⟩
    refine lc_range (lo := 0) (n := ((c : Int)).toNat) (fun i H' => Same H H' ∧ H' D = some (.lst ((octs n i).map V.int))) ⟨same_upd hD, upd_same⟩ ?_ ?_
    · rintro i H1 hi ⟨hs, he⟩
      refine ⟨rfl, _, rfl, _, rfl, _, _, rfl, rfl, Or.inl ⟨by decide, by decide⟩, _, _, rfl, rfl, by show (0 : Int) ≤ _; omega, _, _, rfl, rfl, _, he, ?_, ?_, ?_⟩
      · rw [List.length_map, octs_len]; exact lt_line (by omega)
      · intro b o e
        rw [upd_ne (fun z => by rw [z, hD] at e; cases e)]
        exact hs b o e
      · rw [upd_same, octs_succ, List.map_append]
        have e1 : (8 * (0 + (i : Int))).toNat = 8 * i := by omega
        have e2 : Builtin.bitAnd (n / 2 ^ (8 * (0 + (i : Int))).toNat) 255 = n / 2 ^ (8 * i) % 256 := by
          rw [e1, and255 (Int.ediv_nonneg hn (Int.le_of_lt (Int.pow_pos (by decide))))]
        dsimp only
        rw [e2]
        rfl
    · rintro H1 ⟨hs, he⟩
      rw [show ((c : Int)).toNat = c by omega] at he
      exact q D H1 hD hs he
/-! ### is_text, _padded, _text_octets -/
def codeOk (c : Int) : Bool := decide (32 ≤ c ∧ c ≤ 126 ∧ c ≠ 37)
def isText (s : Str) : Bool := decide ((s.length : Int) ≤ 1000) && s.cps.toList.all (fun c : Nat => codeOk (c : Int))
def codesOf (s : Str) : List Int := s.cps.toList.map fun c : Nat => (c : Int)
def padN (n : Nat) : Nat := (-(n : Int) % 4).toNat
def pad (xs : List Int) : List Int := xs ++ List.replicate (padN xs.length) 0
theorem padN_lt (n : Nat) : padN n < 4 := by unfold padN; omega
theorem pad_len (xs : List Int) : (pad xs).length = xs.length + padN xs.length := by unfold pad; rw [List.length_append, List.length_replicate]
def textOcts (s : Str) : List Int := pad (octs (s.length + 1 : Int) 4 ++ codesOf s ++ [0])
theorem codesOf_len (z : Str) : (codesOf z).length = z.length := by unfold codesOf; rw [List.length_map]; exact (size_eq z).symm
theorem textOcts_len (z : Str) : (textOcts z).length ≤ z.length + 8 := by
  unfold textOcts
  rw [pad_len, List.length_append, List.length_append, octs_len, codesOf_len]
  have := padN_lt (4 + z.length + [(0 : Int)].length)
  show 4 + z.length + 1 + padN (4 + z.length + 1) ≤ _
  have h : padN (4 + z.length + 1) < 4 := padN_lt _
  omega
def sp__is_code (K : PySem.W.Frag) : Sp := fun vs H Q _ => ∃ (c : Int), vs = [.int c] ∧ Q (.bl (codeOk c)) H
theorem sc__is_code : FnScope ["code"] ["code"] (defScope s__is_code) := ⟨rfl, rfl, rfl, by decide +kernel, rfl, by decide +kernel, by decide +kernel⟩
theorem ok__is_code (T : Txt K mg A) : FnOk P w K mg base CX0 1 A.f_is_code A.d_is_code ["code"] (sp__is_code K) := by
  refine T.F_is_code.ok sc__is_code (fun vs H Q E h => ?_) (fun cdv Ar outer s H vs Q E hr h => ?_)
  · obtain ⟨c, rfl, _⟩ := h
    rfl
  · obtain ⟨c, rfl, q⟩ := h
    refine ⟨_, (pss_one (ps_ret (pe_and (pe_chain op_le op_le (pe_glob (v := .int (32)) rfl T.g_FIRST_CODE ⟨_, rfl⟩) (pv 0) (pe_glob (v := .int (126)) rfl T.g_LAST_CODE ⟨_, rfl⟩)) (pe_one (pe_cmpR op_ne (pv 0) (pe_glob (v := .int (37)) rfl T.g_PERCENT_CODE ⟨_, rfl⟩) (nomark _)))))), ?_⟩
    unfold codeOk at q
    refine ⟨_, rfl, _, _, rfl, rfl, _, rfl, iteP (fun h1 => ?_) (fun h1 => ?_)⟩
    · refine ⟨_, _, rfl, rfl, ?_⟩
      by_cases h2 : c ≤ 126
      · refine ⟨_, rfl, if_t (decide_eq_true h2) ⟨_, rfl, rfl, ?_⟩⟩
        by_cases h3 : c = 37
        · rw [decide_eq_false fun z => z.2.2 h3] at q
          rw [decide_eq_true (by rw [h3])]; exact q
        · rw [decide_eq_true ⟨h1, h2, h3⟩] at q
          rw [decide_eq_false fun z => h3 (V.int.inj z)]; exact q
      · refine ⟨_, rfl, if_f (decide_eq_false h2) ?_⟩
        rw [decide_eq_false fun z => h2 z.2.1] at q
        exact q
    · refine ⟨_, rfl, if_f rfl ?_⟩
      rw [decide_eq_false fun z => h1 z.1] at q; exact q
def sp_is_text (K : PySem.W.Frag) : Sp := fun vs H Q _ => ∃ (s : Str), vs = [.str s] ∧ s.length < 100000 ∧ ∀ H', Same H H' → Q (.bl (isText s)) H'
theorem sc_is_text : FnScope ["value", "character"] ["value"] (defScope s_is_text) := ⟨rfl, rfl, rfl, by decide +kernel, rfl, by decide +kernel, by decide +kernel⟩
theorem ok_is_text (T : Txt K mg A) : FnOk P w K mg base CX0 2 A.fis_text A.dis_text ["value"] (sp_is_text K) := by
  refine T.Fis_text.ok sc_is_text (fun vs H Q E h => ?_) (fun cdv Ar outer s H vs Q E hr h => ?_)
  · obtain ⟨c, rfl, _⟩ := h
    rfl
  · obtain ⟨z, rfl, hl, q⟩ := h
    refine ⟨_, (pss_one (ps_ret (pe_and (pe_cmpR op_le (pe_callB call_len_str (by rfl) T.len PySem.boot_len (pa_cons (pv 0) pa_nil)) (pe_glob (v := .int (1000)) rfl T.gLONGEST_TEXT ⟨_, rfl⟩) (nomark _)) (pe_one (pe_callB (cr_all rfl) (by rfl) T.all (by decide +kernel) (pa_cons (pe_lc (own := [("character", 1)]) (g := (gName 1)) (tt := tYes) rfl sc_is_text.nd (pi_str (pv 0)) (blkOk_by (own := [("character", 1)]) (N := ["value", "character"]) (sc := defScope s_is_text) (by decide +kernel)) (fun _ _ _ _ _ => (pg_name (i := 1) sc_is_text.nd rfl (Or.inl rfl))) (fun _ _ _ _ _ => pts_nil) (fun _ _ _ _ _ => by exact (pe_call (ok__is_code T) (hr.mono (by decide)) rfl T.g_is_code T.k_is_code T.b_is_code .nil pass0 (pa_cons (pe_callB call_ord (by rfl) T.ord (by decide +kernel) (pa_cons (pv 1) pa_nil)) pa_nil)))) pa_nil)))))), ?_⟩
    refine ⟨_, rfl, z, rfl, len_line (Nat.le_of_lt hl), _, _, rfl, rfl, _, rfl, iteP (fun h1 => ?_) (fun h1 => ?_)⟩
    · refine ⟨_, rfl, z, rfl, fun D hD => ?_⟩
      refine lc_dp (walk_str (z := z)) (K := K) (V0 := H) (H0 := H) (fun i => (z.cps[i]?).map fun c : Nat => PyData.bool (codeOk (c : Int))) [some (.str z), none] rfl (Same.refl _) hD (by show z.length < 100000; exact hl) (fun _ _ => trivial) (fun i x H H' y => y.1) ?_ ?_
      · rintro i x U H1 hi xx ⟨_, c, hc, rfl⟩ Qy Qn hy _
        refine ⟨rfl, _, rfl, _, rfl, rfl, _, rfl, ?_⟩
        exact hy _ _ _ _ (by rw [hc]; rfl) (Ext.refl xx.vh) (.bl _)
      · rintro U H1 _ xx _ _ dl
        rw [size_eq, show fm (fun i => (z.cps[i]?).map fun c : Nat => PyData.bool (codeOk (c : Int))) z.cps.toList.length = (z.cps.toList.map fun c : Nat => codeOk (c : Int)).map PyData.bool from by
          rw [List.map_map]; exact fm_list _ _ _ rfl _ fun i x hx => by rw [cps_at, hx]; rfl] at dl
        refine ⟨D, _, rfl, xx.vh.seq (dp_boolsL dl), ?_⟩
        have := q _ xx.hh
        unfold isText at this
        rw [decide_eq_true h1, Bool.true_and] at this
        rw [List.all_map]; exact this
    · have := q H (Same.refl H)
      unfold isText at this
      rw [decide_eq_false h1] at this
      exact this
/-- _padded(a list): a new list -/
def sp__padded (K : PySem.W.Frag) : Sp := fun vs H Q _ => ∃ (a : Addr) (xs : List Int), vs = [.ref a] ∧ H a = some (.lst (xs.map V.int)) ∧ xs.length < 90000 ∧ ∀ p H', NewL H H' p ((pad xs).map V.int) → Q (.ref p) H'
theorem sc__padded : FnScope ["octets"] ["octets"] (defScope s__padded) := ⟨rfl, rfl, rfl, by decide +kernel, rfl, by decide +kernel, by decide +kernel⟩
theorem ok__padded (T : Txt K mg A) : FnOk P w K mg base CX0 1 A.f_padded A.d_padded ["octets"] (sp__padded K) := by
  refine T.F_padded.ok sc__padded (fun vs H Q E h => ?_) (fun cdv Ar outer s H vs Q E hr h => ?_)
  · obtain ⟨a, xs, rfl, _⟩ := h
    rfl
  · obtain ⟨a, xs, rfl, ha, hl, q⟩ := h
    refine ⟨_, (pss_one (ps_ret (pe_op op_cat (pv 0) (pe_op op_rep (pe_lst (pa_cons pe_int pa_nil)) (pe_op op_mod (pe_un un_neg (pe_callB call_len_seq (by rfl) T.len PySem.boot_len (pa_cons (pv 0) pa_nil))) pe_int))))), ?_⟩
    refine ⟨_, rfl, by decide, fun p1 n1 => ?_⟩
    have ha1 : (upd H p1 (.lst [.int 0])) a = some (.lst (xs.map V.int)) := by rw [upd_ne (ne_of_none ha n1)]; exact ha
    have e1 : -((xs.map V.int).length : Int) % 4 = (padN xs.length : Int) := by rw [List.length_map]; unfold padN; omega
    have pl := padN_lt xs.length
    refine ⟨_, rfl, a, _, rfl, .inl (SqL.of ha1), _, rfl, _, _, rfl, rfl, by show (0 : Int) < 4; decide, p1, _, _, rfl, rfl, upd_same, ?_, ?_, ?_, fun p2 n2 => ?_⟩
    · omega
    · omega
    · exact len_line (by show 1 * _ ≤ _; omega)
    refine ⟨a, p2, _, _, rfl, rfl, by rw [upd_ne (ne_of_none ha1 n2)]; exact ha1, upd_same, ?_, fun p3 n3 => ?_⟩
    · rw [e1]
      exact len_line (by rw [rep_flat, List.length_map, List.length_replicate]; omega)
    refine q p3 _ ⟨?_, ?_, ?_⟩
    · exact (same_upd n1).free ((same_upd n2).free n3)
    · exact ((same_upd n1).trans (same_upd n2)).trans (same_upd n3)
    · rw [upd_same, e1]
      unfold pad
      rw [List.map_append, show ((padN xs.length : Nat) : Int).toNat = padN xs.length by omega]
      rw [rep_flat, List.map_replicate]
def sp__text_octets (K : PySem.W.Frag) : Sp := fun vs H Q _ => ∃ (s : Str), vs = [.str s] ∧ s.length < 80000 ∧ ∀ p H', NewL H H' p ((textOcts s).map V.int) → Q (.ref p) H'
theorem sc__text_octets : FnScope ["text", "codes", "character"] ["text"] (defScope s__text_octets) := ⟨rfl, rfl, rfl, by decide +kernel, rfl, by decide +kernel, by decide +kernel⟩
theorem ok__text_octets (T : Txt K mg A) : FnOk P w K mg base CX0 2 A.f_text_octets A.d_text_octets ["text"] (sp__text_octets K) := by
  refine T.F_text_octets.ok sc__text_octets (fun vs H Q E h => ?_) (fun cdv Ar outer s H vs Q E hr h => ?_)
  · obtain ⟨z, rfl, _⟩ := h
    rfl
  · obtain ⟨z, rfl, hl, q⟩ := h
    refine ⟨_, (pss_cons (ps_setLc (i := 1) (own := [("character", 2)]) (g := (gName 2)) (tt := tYes) rfl sc__text_octets.nd rfl rfl (sw_true rfl rfl rfl (by decide +kernel)) (pi_str (pv 0)) (blkOk_by (own := [("character", 2)]) (N := ["text", "codes", "character"]) (sc := defScope s__text_octets) (by decide +kernel)) (fun _ _ _ _ _ => (pg_name (i := 2) sc__text_octets.nd rfl (Or.inl rfl))) (fun _ _ _ _ _ => pts_nil) (fun _ _ _ _ _ => by exact (pe_callB call_ord (by rfl) T.ord (by decide +kernel) (pa_cons (pv 2) pa_nil))))
      (pss_one (ps_ret (pe_call (ok__padded T) (hr.mono (by decide)) rfl T.g_padded T.k_padded T.b_padded .nil pass0 (pa_cons (pe_op op_cat (pe_op op_cat (pe_call (ok_number_octets T) (hr.mono (by decide)) rfl T.gnumber_octets T.knumber_octets T.bnumber_octets .nil pass0 (pa_cons (pe_op op_add (pe_callB call_len_seq (by rfl) T.len PySem.boot_len (pa_cons (pv 1) pa_nil)) pe_int) (pa_cons pe_int pa_nil))) (pv 1)) (pe_lst (pa_cons pe_int pa_nil))) pa_nil))))), ?_⟩
    refine ⟨_, rfl, z, rfl, fun D hD => ?_⟩
    refine lc_dp (walk_str (z := z)) (K := K) (V0 := H) (H0 := H) (fun i => (z.cps[i]?).map fun c : Nat => PyData.int (c : Int)) [some (.str z), none, none] rfl (Same.refl _) hD (by show z.length < 100000; omega) (fun _ _ => trivial) (fun i x H H' y => y.1) ?_ ?_
    · rintro i x U H1 hi xx ⟨_, c, hc, rfl⟩ Qy Qn hy _
      refine ⟨rfl, _, rfl, _, rfl, rfl, ?_⟩
      exact hy _ _ _ _ (by rw [hc]; rfl) (Ext.refl xx.vh) (.int _)
    · rintro U H1 xs xx hDU dl _
      rw [size_eq, show fm (fun i => (z.cps[i]?).map fun c : Nat => PyData.int (c : Int)) z.cps.toList.length = (codesOf z).map PyData.int from by
          unfold codesOf; rw [List.map_map]; exact fm_list _ _ _ rfl _ fun i x hx => by rw [cps_at, hx]; rfl] at dl
      have hlc : (codesOf z).length = z.length := by unfold codesOf; rw [List.length_map]; exact (size_eq z).symm
      have exs := dp_intsV dl
      subst exs
      have h1D := xx.vh _ _ hDU
      have ev : ∀ (l : Int), l = z.length → (z.length : Int) + 1 = l + 1 := fun l e => by omega
      refine ⟨_, rfl, D, _, rfl, .inl (SqL.of h1D), _, _, rfl, rfl, _, 4, rfl, ?_, by decide, fun p H2 hp hs he => ?_⟩
      · omega
      have h2D := hs _ _ h1D
      rw [List.length_map, hlc] at he
      refine ⟨_, rfl, p, D, _, _, rfl, rfl, he, h2D, ?_, fun p3 n3 => ?_⟩
      · rw [List.length_map, List.length_map, octs_len, hlc]; exact len_line (by omega)
      refine ⟨by decide, fun p4 n4 => ?_⟩
      refine ⟨p3, p4, _, _, rfl, rfl, by rw [upd_ne (ne_of_none upd_same n4)]; exact upd_same, upd_same, ?_, fun p5 n5 => ?_⟩
      · rw [List.length_append, List.length_map, List.length_map, octs_len, hlc]; exact len_line (by show 4 + z.length + 1 ≤ _; omega)
      refine ⟨p5, octs (z.length + 1 : Int) 4 ++ codesOf z ++ [0], rfl, ?_, ?_, fun p6 H6 n6 => q p6 H6 ?_⟩
      · rw [upd_same, List.map_append, List.map_append]; rfl
      · rw [List.length_append, List.length_append, octs_len, hlc]; show 4 + z.length + 1 < 90000; omega
      · exact ⟨xx.hh.free (hs.free ((same_upd n3).free ((same_upd n4).free ((same_upd n5).free n6.new)))), xx.hh.trans (hs.trans ((same_upd n3).trans ((same_upd n4).trans ((same_upd n5).trans n6.same)))), n6.at_⟩
/-! ### the kinds -/
inductive NumKind : Str → Int → Int → Prop
  | uint : NumKind "uint" 0 4294967295
  | maybe : NumKind "maybe" 0 4294967295
  | int : NumKind "int" (-2147483648) 2147483647
  | object : NumKind "object" 1 4294967295
  | new : NumKind "new" 1 4294967295
inductive AV
  | num (i : Int)
  | txt (s : Str)
  | oct (xs : List Int)
  | bnd (s : Str) (n : Int)
def ArgAt (K : PySem.W.Frag) (H : Hp) (v : V) : AV → Prop
  | .num i => v = .int i
  | .txt s => v = .str s ∧ s.length < 80000
  | .oct xs => ∃ a, v = .ref a ∧ H a = some (.lst (xs.map V.int)) ∧ xs.length < 80000
  | .bnd s n => ∃ a, v = .ref a ∧ SqT K H a [.str s, .int n] ∧ s.length < 80000
theorem ArgAt.to {K : PySem.W.Frag} {H H' : Hp} {v : V} {x : AV} (h : ArgAt K H v x) (s : Same H H') : ArgAt K H' v x := by
  cases x with
  | num i => exact h
  | txt z => exact h
  | oct xs => obtain ⟨a, e, q, l⟩ := h; exact ⟨a, e, s _ _ q, l⟩
  | bnd z n => obtain ⟨a, e, q, l⟩ := h; exact ⟨a, e, s.sqt q, l⟩
def octsOk (xs : List Int) : Bool := decide (xs.length ≤ 16384) && xs.all fun x => decide (0 ≤ x ∧ x ≤ 255)
inductive ArgSpec : Str → AV → Bool → List Int → Prop
  | num {k : Str} {lo hi i : Int} (h : NumKind k lo hi) : ArgSpec k (.num i) (decide (lo ≤ i ∧ i ≤ hi)) (octs (i % 4294967296) 4)
  | txt {s : Str} : ArgSpec "text" (.txt s) (isText s) (textOcts s)
  | oct {xs : List Int} : ArgSpec "octets" (.oct xs) (octsOk xs) (pad (octs xs.length 4 ++ xs))
  | bnd {s : Str} {n : Int} : ArgSpec "bound" (.bnd s n) (isText s && decide (1 ≤ n ∧ n ≤ 4294967295)) (textOcts s ++ octs n 4)
def sp__are_octets (K : PySem.W.Frag) : Sp := fun vs H Q _ => ∃ (a : Addr) (xs : List Int), vs = [.ref a] ∧ H a = some (.lst (xs.map V.int)) ∧ xs.length < 80000 ∧ ∀ H', Same H H' → Q (.bl (octsOk xs)) H'
theorem sc__are_octets : FnScope ["value", "octet"] ["value"] (defScope s__are_octets) := ⟨rfl, rfl, rfl, by decide +kernel, rfl, by decide +kernel, by decide +kernel⟩
theorem ok__are_octets (T : Txt K mg A) : FnOk P w K mg base CX0 2 A.f_are_octets A.d_are_octets ["value"] (sp__are_octets K) := by
  refine T.F_are_octets.ok sc__are_octets (fun vs H Q E h => ?_) (fun cdv Ar outer s H vs Q E hr h => ?_)
  · obtain ⟨a, xs, rfl, _⟩ := h
    rfl
  · obtain ⟨a, xs, rfl, ha, hl, q⟩ := h
    refine ⟨_, (pss_cons (ps_if (PW.pt (pw_or (pt_not (pt_val (pe_callB call_isi (by rfl) T.isinstance (by decide +kernel) (pa_cons (pv 0) (pa_cons (pe_bltn (v := .ty "list") (by rfl) T.list (by decide +kernel) rfl) pa_nil))))) (pw_or1 (pt_cmpR op_gt (pe_callB call_len_seq (by rfl) T.len PySem.boot_len (pa_cons (pv 0) pa_nil)) (pe_glob (v := .int (16384)) rfl T.gMOST_OCTETS ⟨_, rfl⟩) (nomark _)))))
      (pss_one (ps_ret pe_bl))
      pss_nil)
      (pss_one (ps_ret (pe_callB (cr_all rfl) (by rfl) T.all (by decide +kernel) (pa_cons (pe_lc (own := [("octet", 1)]) (g := (gName 1)) (tt := tYes) rfl sc__are_octets.nd (pi_list (pv 0)) (blkOk_by (own := [("octet", 1)]) (N := ["value", "octet"]) (sc := defScope s__are_octets) (by decide +kernel)) (fun _ _ _ _ _ => (pg_name (i := 1) sc__are_octets.nd rfl (Or.inl rfl))) (fun _ _ _ _ _ => pts_nil) (fun _ _ _ _ _ => by exact (pe_call (ok_is_integer T) (hr.mono (by decide)) rfl T.gis_integer T.kis_integer T.bis_integer .nil pass0 (pa_cons (pv 1) (pa_cons pe_int (pa_cons pe_int pa_nil)))))) pa_nil))))), ?_⟩
    refine ⟨_, rfl, .ref a, .ty "list", .type "list", .type "list", true, rfl, .ty _, tyL (K := K) (SqL.of ha), kit_ty (by decide +kernel), _, rfl, if_f rfl ?_⟩
    refine ⟨_, rfl, a, _, rfl, .inl (SqL.of ha), _, _, rfl, rfl, _, rfl, iteP (fun h => ?_) (fun h => ?_)⟩
    · have := q H (Same.refl H)
      unfold octsOk at this
      rw [List.length_map] at h
      rw [decide_eq_false (show ¬ xs.length ≤ 16384 by omega)] at this
      exact this
    · rw [List.length_map] at h
      refine ⟨_, rfl, a, rfl, ⟨_, SqL.of ha⟩, fun D hD => ?_⟩
      refine lc_dp (walk_list (K := K) (a := a) (xs := xs.map V.int)) (K := K) (V0 := H) (H0 := H) (fun i => (xs[i]?).map fun x => PyData.bool (decide (0 ≤ x ∧ x ≤ 255))) [some (.ref a), none] rfl (Same.refl _) hD (by rw [List.length_map]; omega) (fun H' s => s.seq (SqL.of ha)) (fun i x H H' y => y.1) ?_ ?_
      · rintro i x U H1 hi xx ⟨_, hx⟩ Qy Qn hy _
        rw [List.getElem?_map] at hx
        obtain ⟨z, hz, rfl⟩ := Option.map_eq_some_iff.mp hx
        exact ⟨rfl, _, rfl, z, 0, 255, rfl, hy _ _ _ _ (by rw [hz]; rfl) (Ext.refl xx.vh) (.bl _)⟩
      · rintro U H1 _ xx _ _ dl
        rw [List.length_map, show fm (fun i => (xs[i]?).map fun x => PyData.bool (decide (0 ≤ x ∧ x ≤ 255))) xs.length = (xs.map fun x => decide (0 ≤ x ∧ x ≤ 255)).map PyData.bool from by
          rw [List.map_map]; exact fm_list _ _ _ rfl _ fun i x hx => by rw [hx]; rfl] at dl
        refine ⟨D, _, rfl, xx.vh.seq (dp_boolsL dl), ?_⟩
        have := q _ xx.hh
        unfold octsOk at this
        rw [decide_eq_true (show xs.length ≤ 16384 by omega), Bool.true_and] at this
        rw [List.all_map]; exact this
theorem sc__is_of : FnScope ["kind", "value"] ["kind", "value"] (defScope s__is_of) := ⟨rfl, rfl, rfl, by decide +kernel, rfl, by decide +kernel, by decide +kernel⟩
/-- the kinds but bound -/
def sp_is_of0 (K : PySem.W.Frag) : Sp := fun vs H Q _ => ∃ (kind : Str) (v : V) (x : AV) (ok : Bool) (os : List Int), vs = [.str kind, v] ∧ ArgSpec kind x ok os ∧ kind ≠ "bound" ∧ ArgAt K H v x ∧ ∀ H', Same H H' → Q (.bl ok) H'
theorem ok_is_of0 (T : Txt K mg A) : FnOk P w K mg base CX0 3 A.f_is_of A.d_is_of ["kind", "value"] (sp_is_of0 K) := by
  refine T.F_is_of.ok sc__is_of (fun vs H Q E h => ?_) (fun cdv Ar outer s H vs Q E hr h => ?_)
  · obtain ⟨kind, v, x, ok, os, rfl, _⟩ := h
    rfl
  · obtain ⟨kind, v, x, ok, os, rfl, hk, nb, ha, q⟩ := h
    refine ⟨_, (pss_cons (ps_if (PW.pt (pw_or (pt_cmpR op_eq (pv 0) pe_str (nomark _)) (pw_or1 (pt_cmpR op_eq (pv 0) pe_str (nomark _)))))
      (pss_one (ps_ret (pe_call (ok_is_integer T) (hr.mono (by decide)) rfl T.gis_integer T.kis_integer T.bis_integer .nil pass0 (pa_cons (pv 1) (pa_cons pe_int (pa_cons (pe_glob (v := .int (4294967295)) rfl T.gGREATEST_NUMBER ⟨_, rfl⟩) pa_nil))))))
      pss_nil)
      (pss_cons (ps_if (pt_cmpR op_eq (pv 0) pe_str (nomark _))
      (pss_one (ps_ret (pe_call (ok_is_integer T) (hr.mono (by decide)) rfl T.gis_integer T.kis_integer T.bis_integer .nil pass0 (pa_cons (pv 1) (pa_cons (pe_glob (v := .int (-2147483648)) rfl T.gLEAST_INT ⟨_, rfl⟩) (pa_cons (pe_glob (v := .int (2147483647)) rfl T.gGREATEST_INT ⟨_, rfl⟩) pa_nil))))))
      pss_nil)
      (pss_cons (ps_if (PW.pt (pw_or (pt_cmpR op_eq (pv 0) pe_str (nomark _)) (pw_or1 (pt_cmpR op_eq (pv 0) pe_str (nomark _)))))
      (pss_one (ps_ret (pe_call (ok_is_integer T) (hr.mono (by decide)) rfl T.gis_integer T.kis_integer T.bis_integer .nil pass0 (pa_cons (pv 1) (pa_cons pe_int (pa_cons (pe_glob (v := .int (4294967295)) rfl T.gGREATEST_NUMBER ⟨_, rfl⟩) pa_nil))))))
      pss_nil)
      (pss_cons (ps_if (pt_cmpR op_eq (pv 0) pe_str (nomark _))
      (pss_one (ps_ret (pe_and (pe_callB call_isi (by rfl) T.isinstance (by decide +kernel) (pa_cons (pv 1) (pa_cons (pe_bltn (v := .ty "str") (by rfl) T.str (by decide +kernel) rfl) pa_nil))) (pe_one (pe_call (ok_is_text T) (hr.mono (by decide)) rfl T.gis_text T.kis_text T.bis_text .nil pass0 (pa_cons (pv 1) pa_nil))))))
      pss_nil)
      (pss_cons (ps_if (pt_cmpR op_eq (pv 0) pe_str (nomark _))
      (pss_one (ps_ret (pe_call (ok__are_octets T) (hr.mono (by decide)) rfl T.g_are_octets T.k_are_octets T.b_are_octets .nil pass0 (pa_cons (pv 1) pa_nil))))
      pss_nil)
      (pss_one ps_never)))))), ?_⟩
    have q0 := q H (Same.refl H)
    cases hk with
    | num h =>
      rename_i lo hi i
      obtain rfl : v = .int i := ha
      cases h with
      | uint => exact ⟨_, rfl, rfl, _, rfl, if_t (by decide +kernel) (if_t rfl ⟨_, rfl, _, _, _, rfl, q0⟩)⟩
      | maybe => exact ⟨_, rfl, rfl, _, rfl, if_f (by decide +kernel) ⟨_, rfl, rfl, _, rfl, if_t (by decide +kernel) ⟨_, rfl, _, _, _, rfl, q0⟩⟩⟩
      | int =>
        refine ⟨_, rfl, rfl, _, rfl, if_f (by decide +kernel) ⟨_, rfl, rfl, _, rfl, if_f (by decide +kernel) ?_⟩⟩
        exact ⟨_, rfl, rfl, _, rfl, if_t (by decide +kernel) ⟨_, rfl, _, _, _, rfl, q0⟩⟩
      | object =>
        refine ⟨_, rfl, rfl, _, rfl, if_f (by decide +kernel) ⟨_, rfl, rfl, _, rfl, if_f (by decide +kernel) ?_⟩⟩
        refine ⟨_, rfl, rfl, _, rfl, if_f (by decide +kernel) ⟨_, rfl, rfl, _, rfl, if_t (by decide +kernel) (if_t rfl ⟨_, rfl, _, _, _, rfl, q0⟩)⟩⟩
      | new =>
        refine ⟨_, rfl, rfl, _, rfl, if_f (by decide +kernel) ⟨_, rfl, rfl, _, rfl, if_f (by decide +kernel) ?_⟩⟩
        refine ⟨_, rfl, rfl, _, rfl, if_f (by decide +kernel) ⟨_, rfl, rfl, _, rfl, if_f (by decide +kernel) ⟨_, rfl, rfl, _, rfl, if_t (by decide +kernel) ⟨_, rfl, _, _, _, rfl, q0⟩⟩⟩⟩
    | txt =>
      rename_i s
      obtain ⟨rfl, hl⟩ := ha
      refine ⟨_, rfl, rfl, _, rfl, if_f (by decide +kernel) ⟨_, rfl, rfl, _, rfl, if_f (by decide +kernel) ?_⟩⟩
      refine ⟨_, rfl, rfl, _, rfl, if_f (by decide +kernel) ⟨_, rfl, rfl, _, rfl, if_f (by decide +kernel) ⟨_, rfl, rfl, _, rfl, if_f (by decide +kernel) ?_⟩⟩⟩
      refine ⟨_, rfl, rfl, _, rfl, if_t (by decide +kernel) ?_⟩
      exact ⟨_, rfl, .str s, .ty "str", .type "str", .type "str", true, rfl, .ty _, .base (.str _), kit_ty (by decide +kernel), _, rfl, if_t rfl ⟨_, rfl, s, rfl, by omega, q⟩⟩
    | oct =>
      rename_i xs
      obtain ⟨a, rfl, ha, hl⟩ := ha
      refine ⟨_, rfl, rfl, _, rfl, if_f (by decide +kernel) ⟨_, rfl, rfl, _, rfl, if_f (by decide +kernel) ?_⟩⟩
      refine ⟨_, rfl, rfl, _, rfl, if_f (by decide +kernel) ⟨_, rfl, rfl, _, rfl, if_f (by decide +kernel) ⟨_, rfl, rfl, _, rfl, if_f (by decide +kernel) ?_⟩⟩⟩
      refine ⟨_, rfl, rfl, _, rfl, if_f (by decide +kernel) ?_⟩
      exact ⟨_, rfl, rfl, _, rfl, if_t (by decide +kernel) ⟨_, rfl, a, xs, rfl, ha, hl, q⟩⟩
    | bnd => exact absurd rfl nb
def sp__is_bound (K : PySem.W.Frag) : Sp := fun vs H Q _ => ∃ (a : Addr) (s : Str) (n : Int), vs = [.ref a] ∧ SqT K H a [.str s, .int n] ∧ s.length < 80000 ∧ ∀ H', Same H H' → Q (.bl (isText s && decide (1 ≤ n ∧ n ≤ 4294967295))) H'
theorem sc__is_bound : FnScope ["value"] ["value"] (defScope s__is_bound) := ⟨rfl, rfl, rfl, by decide +kernel, rfl, by decide +kernel, by decide +kernel⟩
theorem ok__is_bound (T : Txt K mg A) : FnOk P w K mg base CX0 4 A.f_is_bound A.d_is_bound ["value"] (sp__is_bound K) := by
  refine T.F_is_bound.ok sc__is_bound (fun vs H Q E h => ?_) (fun cdv Ar outer s H vs Q E hr h => ?_)
  · obtain ⟨a, s, n, rfl, _⟩ := h
    rfl
  · obtain ⟨a, z, n, rfl, ha, hl, q⟩ := h
    have ok__is_of : ∀ {A' : Adr} (T : Txt K mg A'), FnOk P w K mg base CX0 3 A'.f_is_of A'.d_is_of ["kind", "value"] (sp_is_of0 K) := fun T => ok_is_of0 T
    refine ⟨_, (pss_cons (ps_if (PW.pt (pw_or (pt_not (pt_val (pe_callB call_isi (by rfl) T.isinstance (by decide +kernel) (pa_cons (pv 0) (pa_cons (pe_bltn (v := .ty "tuple") (by rfl) T.tuple (by decide +kernel) rfl) pa_nil))))) (pw_or1 (pt_cmpR op_ne (pe_callB call_len_seq (by rfl) T.len PySem.boot_len (pa_cons (pv 0) pa_nil)) pe_int (nomark _)))))
      (pss_one (ps_ret pe_bl))
      pss_nil)
      (pss_one (ps_ret (pe_and (pe_call (ok__is_of T) (hr.mono (by decide)) rfl T.g_is_of T.k_is_of T.b_is_of .nil pass0 (pa_cons pe_str (pa_cons (pe_ix (r := rIxT K) ix_tup (pv 0) pe_int (fun _ _ => rfl)) pa_nil))) (pe_one (pe_call (ok__is_of T) (hr.mono (by decide)) rfl T.g_is_of T.k_is_of T.b_is_of .nil pass0 (pa_cons pe_str (pa_cons (pe_ix (r := rIxT K) ix_tup (pv 0) pe_int (fun _ _ => rfl)) pa_nil)))))))), ?_⟩
    refine ⟨_, rfl, .ref a, .ty "tuple", .type "tuple", .type "tuple", true, rfl, .ty _, tyT ha, kit_ty (by decide +kernel), _, rfl, if_f rfl ?_⟩
    refine ⟨_, rfl, a, _, rfl, .inr ha, rfl, _, rfl, if_f rfl ?_⟩
    refine ⟨_, rfl, a, _, 0, .str z, rfl, rfl, ha, atI_nat (j := 0) rfl, "text", .str z, .txt z, isText z, _, rfl, .txt, by decide +kernel, ⟨rfl, hl⟩, fun H' s => ⟨_, rfl, if_b (fun c => ?_) (fun c => ?_)⟩⟩
    · refine ⟨_, rfl, a, _, 1, .int n, rfl, rfl, s.sqt ha, atI_nat (j := 1) rfl, "new", .int n, .num n, _, _, rfl, .num .new, by decide +kernel, rfl, fun H2 s2 => ?_⟩
      have := q H2 (s.trans s2)
      rw [c, Bool.true_and] at this
      exact this
    · have := q H' s
      rw [c, Bool.false_and] at this
      exact this
def sp__is_of (K : PySem.W.Frag) : Sp := fun vs H Q _ => ∃ (kind : Str) (v : V) (x : AV) (ok : Bool) (os : List Int), vs = [.str kind, v] ∧ ArgSpec kind x ok os ∧ ArgAt K H v x ∧ ∀ H', Same H H' → Q (.bl ok) H'
theorem ok__is_of (T : Txt K mg A) : FnOk P w K mg base CX0 5 A.f_is_of A.d_is_of ["kind", "value"] (sp__is_of K) := by
  refine T.F_is_of.ok sc__is_of (fun vs H Q E h => ?_) (fun cdv Ar outer s H vs Q E hr h => ?_)
  · obtain ⟨kind, v, x, ok, os, rfl, _⟩ := h
    rfl
  · obtain ⟨kind, v, x, ok, os, rfl, hk, ha, q⟩ := h
    refine ⟨_, (pss_cons (ps_if (PW.pt (pw_or (pt_cmpR op_eq (pv 0) pe_str (nomark _)) (pw_or1 (pt_cmpR op_eq (pv 0) pe_str (nomark _)))))
      (pss_one (ps_ret (pe_call (ok_is_integer T) (hr.mono (by decide)) rfl T.gis_integer T.kis_integer T.bis_integer .nil pass0 (pa_cons (pv 1) (pa_cons pe_int (pa_cons (pe_glob (v := .int (4294967295)) rfl T.gGREATEST_NUMBER ⟨_, rfl⟩) pa_nil))))))
      pss_nil)
      (pss_cons (ps_if (pt_cmpR op_eq (pv 0) pe_str (nomark _))
      (pss_one (ps_ret (pe_call (ok_is_integer T) (hr.mono (by decide)) rfl T.gis_integer T.kis_integer T.bis_integer .nil pass0 (pa_cons (pv 1) (pa_cons (pe_glob (v := .int (-2147483648)) rfl T.gLEAST_INT ⟨_, rfl⟩) (pa_cons (pe_glob (v := .int (2147483647)) rfl T.gGREATEST_INT ⟨_, rfl⟩) pa_nil))))))
      pss_nil)
      (pss_cons (ps_if (PW.pt (pw_or (pt_cmpR op_eq (pv 0) pe_str (nomark _)) (pw_or1 (pt_cmpR op_eq (pv 0) pe_str (nomark _)))))
      (pss_one (ps_ret (pe_call (ok_is_integer T) (hr.mono (by decide)) rfl T.gis_integer T.kis_integer T.bis_integer .nil pass0 (pa_cons (pv 1) (pa_cons pe_int (pa_cons (pe_glob (v := .int (4294967295)) rfl T.gGREATEST_NUMBER ⟨_, rfl⟩) pa_nil))))))
      pss_nil)
      (pss_cons (ps_if (pt_cmpR op_eq (pv 0) pe_str (nomark _))
      (pss_one (ps_ret (pe_and (pe_callB call_isi (by rfl) T.isinstance (by decide +kernel) (pa_cons (pv 1) (pa_cons (pe_bltn (v := .ty "str") (by rfl) T.str (by decide +kernel) rfl) pa_nil))) (pe_one (pe_call (ok_is_text T) (hr.mono (by decide)) rfl T.gis_text T.kis_text T.bis_text .nil pass0 (pa_cons (pv 1) pa_nil))))))
      pss_nil)
      (pss_cons (ps_if (pt_cmpR op_eq (pv 0) pe_str (nomark _))
      (pss_one (ps_ret (pe_call (ok__are_octets T) (hr.mono (by decide)) rfl T.g_are_octets T.k_are_octets T.b_are_octets .nil pass0 (pa_cons (pv 1) pa_nil))))
      pss_nil)
      (pss_one (ps_ret (pe_and (pe_cmpR op_eq (pv 0) pe_str (nomark _)) (pe_one (pe_call (ok__is_bound T) (hr.mono (by decide)) rfl T.g_is_bound T.k_is_bound T.b_is_bound .nil pass0 (pa_cons (pv 1) pa_nil))))))))))), ?_⟩
    have q0 := q H (Same.refl H)
    cases hk with
    | num h =>
      rename_i lo hi i
      obtain rfl : v = .int i := ha
      cases h with
      | uint => exact ⟨_, rfl, rfl, _, rfl, if_t (by decide +kernel) (if_t rfl ⟨_, rfl, _, _, _, rfl, q0⟩)⟩
      | maybe => exact ⟨_, rfl, rfl, _, rfl, if_f (by decide +kernel) ⟨_, rfl, rfl, _, rfl, if_t (by decide +kernel) ⟨_, rfl, _, _, _, rfl, q0⟩⟩⟩
      | int =>
        refine ⟨_, rfl, rfl, _, rfl, if_f (by decide +kernel) ⟨_, rfl, rfl, _, rfl, if_f (by decide +kernel) ?_⟩⟩
        exact ⟨_, rfl, rfl, _, rfl, if_t (by decide +kernel) ⟨_, rfl, _, _, _, rfl, q0⟩⟩
      | object =>
        refine ⟨_, rfl, rfl, _, rfl, if_f (by decide +kernel) ⟨_, rfl, rfl, _, rfl, if_f (by decide +kernel) ?_⟩⟩
        refine ⟨_, rfl, rfl, _, rfl, if_f (by decide +kernel) ⟨_, rfl, rfl, _, rfl, if_t (by decide +kernel) (if_t rfl ⟨_, rfl, _, _, _, rfl, q0⟩)⟩⟩
      | new =>
        refine ⟨_, rfl, rfl, _, rfl, if_f (by decide +kernel) ⟨_, rfl, rfl, _, rfl, if_f (by decide +kernel) ?_⟩⟩
        refine ⟨_, rfl, rfl, _, rfl, if_f (by decide +kernel) ⟨_, rfl, rfl, _, rfl, if_f (by decide +kernel) ⟨_, rfl, rfl, _, rfl, if_t (by decide +kernel) ⟨_, rfl, _, _, _, rfl, q0⟩⟩⟩⟩
    | txt =>
      rename_i s
      obtain ⟨rfl, hl⟩ := ha
      refine ⟨_, rfl, rfl, _, rfl, if_f (by decide +kernel) ⟨_, rfl, rfl, _, rfl, if_f (by decide +kernel) ?_⟩⟩
      refine ⟨_, rfl, rfl, _, rfl, if_f (by decide +kernel) ⟨_, rfl, rfl, _, rfl, if_f (by decide +kernel) ⟨_, rfl, rfl, _, rfl, if_f (by decide +kernel) ?_⟩⟩⟩
      refine ⟨_, rfl, rfl, _, rfl, if_t (by decide +kernel) ?_⟩
      exact ⟨_, rfl, .str s, .ty "str", .type "str", .type "str", true, rfl, .ty _, .base (.str _), kit_ty (by decide +kernel), _, rfl, if_t rfl ⟨_, rfl, s, rfl, by omega, q⟩⟩
    | oct =>
      rename_i xs
      obtain ⟨a, rfl, ha, hl⟩ := ha
      refine ⟨_, rfl, rfl, _, rfl, if_f (by decide +kernel) ⟨_, rfl, rfl, _, rfl, if_f (by decide +kernel) ?_⟩⟩
      refine ⟨_, rfl, rfl, _, rfl, if_f (by decide +kernel) ⟨_, rfl, rfl, _, rfl, if_f (by decide +kernel) ⟨_, rfl, rfl, _, rfl, if_f (by decide +kernel) ?_⟩⟩⟩
      refine ⟨_, rfl, rfl, _, rfl, if_f (by decide +kernel) ?_⟩
      exact ⟨_, rfl, rfl, _, rfl, if_t (by decide +kernel) ⟨_, rfl, a, xs, rfl, ha, hl, q⟩⟩
    | bnd =>
      rename_i z n
      obtain ⟨a, rfl, ha, hl⟩ := ha
      refine ⟨_, rfl, rfl, _, rfl, if_f (by decide +kernel) ⟨_, rfl, rfl, _, rfl, if_f (by decide +kernel) ?_⟩⟩
      refine ⟨_, rfl, rfl, _, rfl, if_f (by decide +kernel) ⟨_, rfl, rfl, _, rfl, if_f (by decide +kernel) ⟨_, rfl, rfl, _, rfl, if_f (by decide +kernel) ?_⟩⟩⟩
      refine ⟨_, rfl, rfl, _, rfl, if_f (by decide +kernel) ?_⟩
      refine ⟨_, rfl, rfl, _, rfl, if_f (by decide +kernel) ?_⟩
      exact ⟨_, rfl, rfl, _, rfl, if_t (by decide +kernel) ⟨_, rfl, a, z, n, rfl, ha, hl, q⟩⟩
/-- field_octets: a new list, or BadMessage -/
def sp_field_octets (K : PySem.W.Frag) (C : Addr) : Sp := fun vs H Q E => ∃ (kind : Str) (v : V) (x : AV) (ok : Bool) (os : List Int), vs = [.str kind, v] ∧ ArgSpec kind x ok os ∧ ArgAt K H v x ∧
  (ok = true → ∀ p H', NewL H H' p (os.map V.int) → Q (.ref p) H') ∧ (ok = false → ∀ H', Same H H' → E (.ref C) none H')
theorem sc_field_octets : FnScope ["kind", "value", "text", "number"] ["kind", "value"] (defScope s_field_octets) := ⟨rfl, rfl, rfl, by decide +kernel, rfl, by decide +kernel, by decide +kernel⟩
theorem ok_field_octets (T : Txt K mg A) : FnOk P w K mg base (L2.CX P w) 6 A.ffield_octets A.dfield_octets ["kind", "value"] (sp_field_octets K A.CBadMessage) := by
  refine T.Ffield_octets.okX sc_field_octets (fun vs H Q E h => ?_) (fun cdv Ar outer s H vs Q E hr h => ?_)
  · obtain ⟨kind, v, x, ok, os, rfl, _⟩ := h
    rfl
  · obtain ⟨kind, v, x, ok, os, rfl, hk, ha, q, e⟩ := h
    refine ⟨_, (pss_cons (ps_if (pt_not (pt_val (pe_call (ok__is_of T) (hr.mono (by decide)) rfl T.g_is_of T.k_is_of T.b_is_of .nil pass0 (pa_cons (pv 0) (pa_cons (pv 1) pa_nil)))))
      (pss_one (ps_raise rfl (takes_of rfl rfl rfl rfl) (pmk_own PySem.F.excBase_ValueError T.xBadMessage T.gBadMessage T.kBadMessage (raises_own T.bxBadMessage T.txBadMessage) rfl)))
      pss_nil)
      (pss_cons (ps_if (pt_cmpR op_eq (pv 0) pe_str (nomark _))
      (pss_one (ps_ret (pe_call (ok__text_octets T) (hr.mono (by decide)) rfl T.g_text_octets T.k_text_octets T.b_text_octets .nil pass0 (pa_cons (pv 1) pa_nil))))
      pss_nil)
      (pss_cons (ps_if (pt_cmpR op_eq (pv 0) pe_str (nomark _))
      (pss_one (ps_ret (pe_call (ok__padded T) (hr.mono (by decide)) rfl T.g_padded T.k_padded T.b_padded .nil pass0 (pa_cons (pe_op op_cat (pe_call (ok_number_octets T) (hr.mono (by decide)) rfl T.gnumber_octets T.knumber_octets T.bnumber_octets .nil pass0 (pa_cons (pe_callB call_len_seq (by rfl) T.len PySem.boot_len (pa_cons (pv 1) pa_nil)) (pa_cons pe_int pa_nil))) (pv 1)) pa_nil))))
      pss_nil)
      (pss_cons (ps_if (pt_cmpR op_eq (pv 0) pe_str (nomark _))
      (pss_cons (ps_asg (pv 1) (pg_tup rfl (pgs_cons (pg_name (i := 2) sc_field_octets.nd rfl (Or.inl rfl)) (pgs_cons (pg_name (i := 3) sc_field_octets.nd rfl (Or.inl rfl)) pgs_nil))))
      (pss_one (ps_ret (pe_op op_cat (pe_call (ok__text_octets T) (hr.mono (by decide)) rfl T.g_text_octets T.k_text_octets T.b_text_octets .nil pass0 (pa_cons (pv 2) pa_nil)) (pe_call (ok_number_octets T) (hr.mono (by decide)) rfl T.gnumber_octets T.knumber_octets T.bnumber_octets .nil pass0 (pa_cons (pv 3) (pa_cons pe_int pa_nil)))))))
      pss_nil)
      (pss_one (ps_ret (pe_call (ok_number_octets T) (hr.mono (by decide)) rfl T.gnumber_octets T.knumber_octets T.bnumber_octets .nil pass0 (pa_cons (pe_op op_mod (pv 1) (pe_op op_pow pe_int pe_int)) (pa_cons pe_int pa_nil))))))))), ?_⟩
    refine ⟨_, rfl, _, rfl, kind, v, x, ok, os, rfl, hk, ha, fun H1 s1 => ⟨_, rfl, if_b (fun c => ?_) (fun c => ?_)⟩⟩
    · refine e ?_ H1 s1
      cases ok
      · rfl
      · cases c
    have hok : ok = true := by cases ok; · cases c
                               · rfl
    replace q : ∀ p H', NewL H H' p (os.map V.int) → Q (.ref p) H' := q hok
    replace ha := ha.to s1
    clear e c
    cases hk with
    | num h =>
      rename_i lo hi i
      obtain rfl : v = .int i := ha
      have hne : kind ≠ "text" ∧ kind ≠ "octets" ∧ kind ≠ "bound" := by cases h <;> exact ⟨by decide +kernel, by decide +kernel, by decide +kernel⟩
      refine ⟨_, rfl, rfl, _, rfl, if_f (decide_eq_false fun z => hne.1 (V.str.inj z)) ?_⟩
      refine ⟨_, rfl, rfl, _, rfl, if_f (decide_eq_false fun z => hne.2.1 (V.str.inj z)) ?_⟩
      refine ⟨_, rfl, rfl, _, rfl, if_f (decide_eq_false fun z => hne.2.2 (V.str.inj z)) ?_⟩
      refine ⟨_, rfl, _, _, rfl, rfl, ⟨by decide, by decide, by decide⟩, _, _, rfl, rfl, by show (0 : Int) < 2 ^ (32 : Int).toNat; decide +kernel, ?_⟩
      have e2 : i % 2 ^ (32 : Int).toNat = i % 4294967296 := by rw [show (2 : Int) ^ (32 : Int).toNat = 4294967296 by decide +kernel]
      refine ⟨_, 4, rfl, ?_, by decide, ?_⟩
      · rw [e2]; omega
      · rw [e2]; exact fun p H' hp hs he => q p H' ⟨s1.free hp, s1.trans hs, he⟩
    | txt =>
      rename_i z
      obtain ⟨rfl, hl⟩ := ha
      refine ⟨_, rfl, rfl, _, rfl, if_t (by decide +kernel) ⟨_, rfl, z, rfl, hl, fun p H' n => q p H' ⟨s1.free n.new, s1.trans n.same, n.at_⟩⟩⟩
    | oct =>
      rename_i xs
      obtain ⟨a, rfl, ha, hl⟩ := ha
      refine ⟨_, rfl, rfl, _, rfl, if_f (by decide +kernel) ⟨_, rfl, rfl, _, rfl, if_t (by decide +kernel) ?_⟩⟩
      refine ⟨_, rfl, a, _, rfl, .inl (SqL.of ha), _, 4, rfl, by omega, by decide, fun p H2 hp hs he => ?_⟩
      rw [List.length_map] at he
      refine ⟨_, rfl, p, a, _, _, rfl, rfl, he, hs _ _ ha, ?_, fun p3 n3 => ?_⟩
      · rw [List.length_map, List.length_map, octs_len]; exact len_line (by omega)
      refine ⟨p3, octs xs.length 4 ++ xs, rfl, by rw [upd_same, List.map_append], by rw [List.length_append, octs_len]; omega, fun p4 H4 n4 => q p4 H4 ?_⟩
      exact ⟨s1.free (hs.free ((same_upd n3).free n4.new)), s1.trans (hs.trans ((same_upd n3).trans n4.same)), n4.at_⟩
    | bnd =>
      rename_i z n
      obtain ⟨a, rfl, ha, hl⟩ := ha
      refine ⟨_, rfl, rfl, _, rfl, if_f (by decide +kernel) ⟨_, rfl, rfl, _, rfl, if_f (by decide +kernel) ⟨_, rfl, rfl, _, rfl, if_t (by decide +kernel) ?_⟩⟩⟩
      refine ⟨_, rfl, a, _, rfl, ha, rfl, _, _, rfl, _, _, rfl, rfl, ?_⟩
      refine ⟨_, rfl, z, rfl, hl, fun p2 H2 n2 => ?_⟩
      refine ⟨_, rfl, n, 4, rfl, ?_, by decide, fun p3 H3 n3 s3 e3 => ?_⟩
      · have h2 := (Bool.and_eq_true_iff.mp hok).2
        have h3 := of_decide_eq_true h2
        omega
      refine ⟨p2, p3, _, _, rfl, rfl, s3 _ _ n2.at_, e3, ?_, fun p4 n4 => q p4 _ ⟨?_, ?_, ?_⟩⟩
      · rw [List.length_map, List.length_map, octs_len]; have := textOcts_len z; exact len_line (by omega)
      · exact s1.free (n2.same.free (s3.free n4))
      · exact s1.trans (n2.same.trans (s3.trans (same_upd n4)))
      · rw [upd_same, List.map_append]
/-! ### the law's signs -/
def signs1 : Str := " !\"#$&'()*+,-./0123456789:;<=>?@ABCDEFGHIJKLMNOPQRSTUVWXYZ[\\]^_`"
def signs2 : Str := "abcdefghijklmnopqrstuvwxyz{|}~"
theorem signs_len : (signs1 ++ signs2).cps.toList.length = 94 := by decide +kernel
theorem signs_ok : (signs1 ++ signs2).cps.toList.all (fun c : Nat => codeOk (c : Int)) = true := by decide +kernel
def okCodes (cs : List Nat) : Prop := ∀ c ∈ cs, codeOk (c : Int) = true
theorem at_of' {α : Type} {xs : List α} {z : Int} {j : Nat} {v : α} (e : z = (j : Int)) (h : xs[j]? = some v) : atI xs z = some v := by
  rw [e]
  exact atI_nat h
def signAt (d : Int) : Nat := (signs1 ++ signs2).cps.toList.getD (d % 94).toNat 32
theorem signAt_ok (d : Int) : codeOk (signAt d : Int) = true := by
  have hl := signs_len
  have hj : (d % 94).toNat < (signs1 ++ signs2).cps.toList.length := by omega
  unfold signAt
  rw [List.getD_eq_getElem?_getD, List.getElem?_eq_getElem hj]
  exact List.all_eq_true.mp signs_ok _ (List.getElem_mem hj)
def sp__law_sign (K : PySem.W.Frag) : Sp := fun vs H Q _ => ∃ (d : Int), vs = [.int d] ∧ Q (.str ⟨#[signAt d]⟩) H
theorem sc__law_sign : FnScope ["digit", "signs"] ["digit"] (defScope s__law_sign) := ⟨rfl, rfl, rfl, by decide +kernel, rfl, by decide +kernel, by decide +kernel⟩
theorem ok__law_sign (T : Txt K mg A) : FnOk P w K mg base CX0 1 A.f_law_sign A.d_law_sign ["digit"] (sp__law_sign K) := by
  refine T.F_law_sign.ok sc__law_sign (fun vs H Q E h => ?_) (fun cdv Ar outer s H vs Q E hr h => ?_)
  · obtain ⟨d, rfl, _⟩ := h
    rfl
  · obtain ⟨d, rfl, q⟩ := h
    refine ⟨_, (pss_cons (ps_set (i := 1) sc__law_sign.nd rfl (Or.inl rfl) pe_str)
      (pss_cons (ps_set (i := 1) sc__law_sign.nd rfl (Or.inl rfl) (pe_op op_add_str (pv 1) pe_str))
      (pss_one (ps_ret (pe_ix (r := rIxS) ix_str (pv 1) (pe_op op_mod (pe_callTy call_int1 (by rfl) T.int (by decide +kernel) (pa_cons (pv 0) pa_nil)) pe_int) (fun _ _ => rfl)))))), ?_⟩
    have hl := signs_len
    have hj : (d % 94).toNat < (signs1 ++ signs2).cps.toList.length := by omega
    refine ⟨_, rfl, _, _, rfl, rfl, by decide +kernel, _, rfl, _, rfl, Or.inl ⟨_, rfl, ?_⟩⟩
    refine ⟨_, _, rfl, rfl, by show (0 : Int) < 94; decide, signs1 ++ signs2, _, (signs1 ++ signs2).cps.toList[(d % 94).toNat], rfl, rfl, by decide +kernel, ?_, ?_⟩
    · exact at_of' (by omega) (List.getElem?_eq_getElem hj)
    · unfold signAt at q
      rw [List.getD_eq_getElem?_getD, List.getElem?_eq_getElem hj] at q
      exact q
theorem join_singles (cs : List Nat) : Txt.join ⟨#[]⟩ (cs.map fun c => (⟨#[c]⟩ : Str)) = ⟨cs.toArray⟩ := by
  have h := SX.join_S [] (cs.map fun c => [c])
  rw [List.map_map] at h
  have e : ∀ l : List Nat, TL.joinL [] (l.map fun c => [c]) = l := by
    intro l
    induction l with
    | nil => rfl
    | cons a l ih =>
      cases l with
      | nil => rfl
      | cons b l => exact congrArg (a :: ·) ih
  rw [e] at h
  exact h
/-! ### _law_octets -/
def lawOcts (r : Int) (n : Nat) : List Int := (List.range n).map fun k : Nat => (r / ((k : Int) % 9 + 1) + (k : Int) * (r % 251)) % 256
theorem lawOcts_len (r : Int) (n : Nat) : (lawOcts r n).length = n := by unfold lawOcts; rw [List.length_map, List.length_range]
theorem lawOcts_ok (r : Int) (n : Nat) : (lawOcts r n).all (fun x => decide (0 ≤ x ∧ x ≤ 255)) = true := by
  rw [List.all_eq_true]
  intro x hx
  obtain ⟨k, _, rfl⟩ := List.mem_map.mp hx
  refine decide_eq_true ?_
  omega
def sp__law_octets (K : PySem.W.Frag) : Sp := fun vs H Q _ => ∃ (r : Int) (n : Nat), vs = [.int r, .int (n : Int)] ∧ n < 80000 ∧ ∀ p H', NewL H H' p ((lawOcts r n).map V.int) → Q (.ref p) H'
theorem sc__law_octets : FnScope ["row", "size", "k"] ["row", "size"] (defScope s__law_octets) := ⟨rfl, rfl, rfl, by decide +kernel, rfl, by decide +kernel, by decide +kernel⟩
theorem ok__law_octets (T : Txt K mg A) : FnOk P w K mg base CX0 1 A.f_law_octets A.d_law_octets ["row", "size"] (sp__law_octets K) := by
  refine T.F_law_octets.ok sc__law_octets (fun vs H Q E h => ?_) (fun cdv Ar outer s H vs Q E hr h => ?_)
  · obtain ⟨r, n, rfl, _⟩ := h
    rfl
  · obtain ⟨r, n, rfl, hn, q⟩ := h
    refine ⟨_, (pss_one (ps_ret (pe_lc (own := [("k", 2)]) (g := (gName 2)) (tt := tYes) rfl sc__law_octets.nd (pi_range1 (by rfl) T.range (pa_cons (pv 1) pa_nil)) (blkOk_by (own := [("k", 2)]) (N := ["row", "size", "k"]) (sc := defScope s__law_octets) (by decide +kernel)) (fun _ _ _ _ _ => (pg_name (i := 2) sc__law_octets.nd rfl (Or.inl rfl))) (fun _ _ _ _ _ => pts_nil) (fun _ _ _ _ _ => by exact (pe_op op_mod (pe_callTy call_int1 (by rfl) T.int (by decide +kernel) (pa_cons (pe_op op_add (pe_op op_fdiv (pv 0) (pe_op op_add (pe_op op_mod (pv 2) pe_int) pe_int)) (pe_op op_mul (pv 2) (pe_op op_mod (pv 0) pe_int))) pa_nil)) pe_int))))), ?_⟩
    refine ⟨_, rfl, (n : Int), rfl, by omega, by omega, fun D hD => ?_⟩
    refine lc_dp (walk_range (lo := 0) (n := (n : Int).toNat)) (K := K) (V0 := H) (H0 := H) (fun k => some (PyData.int ((r / ((k : Int) % 9 + 1) + (k : Int) * (r % 251)) % 256))) [some (.int r), some (.int (n : Int)), none] rfl (Same.refl _) hD (by omega) (fun _ _ => trivial) (fun i x H H' y => y.1) ?_ ?_
    · rintro i x U H1 hi xx ⟨_, rfl⟩ Qy Qn hy _
      refine ⟨rfl, _, rfl, _, rfl, _, _, rfl, rfl, by show (0 : Int) < 9; decide, _, _, rfl, rfl, _, _, rfl, rfl, ⟨?_, ?_⟩, _, rfl, _, rfl, _, _, rfl, rfl, by show (0 : Int) < 251; decide, _, _, rfl, rfl, Or.inr ⟨by omega, by omega⟩, _, _, rfl, rfl, Or.inl ⟨_, rfl, ?_⟩⟩
      · show (0 : Int) < (0 + (i : Int)) % 9 + 1; omega
      · show (0 + (i : Int)) % 9 + 1 < 1073741824; omega
      refine ⟨_, _, rfl, rfl, by show (0 : Int) < 256; decide, ?_⟩
      rw [Int.zero_add]
      exact hy _ _ _ _ rfl (Ext.refl xx.vh) (.int _)
    · rintro U H1 xs xx hDU dl _
      rw [show (n : Int).toNat = n by omega, fm_some, show ((List.range n).map fun k : Nat => PyData.int ((r / ((k : Int) % 9 + 1) + (k : Int) * (r % 251)) % 256)) = (lawOcts r n).map PyData.int from by unfold lawOcts; rw [List.map_map]; rfl] at dl
      have e := dp_intsV dl
      subst e
      exact q D H1 ⟨hD, xx.hh, xx.vh _ _ hDU⟩
/-! ### _law_text, a comprehension -/
def lawText (r : Int) (n : Nat) : List Nat := (List.range n).map fun k : Nat => signAt (r / ((k : Int) % 7 + 1) + (k : Int) * (r % 93 + 1))
theorem lawText_len (r : Int) (n : Nat) : (lawText r n).length = n := by unfold lawText; rw [List.length_map, List.length_range]
theorem lawText_ok (r : Int) (n : Nat) : okCodes (lawText r n) := by
  intro c hc
  obtain ⟨k, _, rfl⟩ := List.mem_map.mp hc
  exact signAt_ok _
def lawTextS (r : Int) (n : Nat) : Str := ⟨(lawText r n).toArray⟩
theorem lawTextS_len (r : Int) (n : Nat) : (lawTextS r n).length = n := by show (lawText r n).toArray.size = n; rw [List.size_toArray, lawText_len]
theorem lawTextS_ok (r : Int) (n : Nat) : okCodes (lawTextS r n).cps.toList := by show okCodes (lawText r n).toArray.toList; simpa using lawText_ok r n
def sp__law_text (K : PySem.W.Frag) : Sp := fun vs H Q _ => ∃ (r : Int) (n : Nat), vs = [.int r, .int (n : Int)] ∧ n < 70000 ∧ ∀ H', Same H H' → Q (.str (lawTextS r n)) H'
theorem sc__law_text : FnScope ["row", "size", "k"] ["row", "size"] (defScope s__law_text) := ⟨rfl, rfl, rfl, by decide +kernel, rfl, by decide +kernel, by decide +kernel⟩
theorem ok__law_text (T : Txt K mg A) : FnOk P w K mg base CX0 2 A.f_law_text A.d_law_text ["row", "size"] (sp__law_text K) := by
  refine T.F_law_text.ok sc__law_text (fun vs H Q E h => ?_) (fun cdv Ar outer s H vs Q E hr h => ?_)
  · obtain ⟨r, n, rfl, _⟩ := h
    rfl
  · obtain ⟨r, n, rfl, hn, q⟩ := h
    refine ⟨_, (pss_one (ps_ret (pe_join pe_str (pe_lc (own := [("k", 2)]) (g := (gName 2)) (tt := tYes) rfl sc__law_text.nd (pi_range1 (by rfl) T.range (pa_cons (pv 1) pa_nil)) (blkOk_by (own := [("k", 2)]) (N := ["row", "size", "k"]) (sc := defScope s__law_text) (by decide +kernel)) (fun _ _ _ _ _ => (pg_name (i := 2) sc__law_text.nd rfl (Or.inl rfl))) (fun _ _ _ _ _ => pts_nil) (fun _ _ _ _ _ => by exact (pe_call (ok__law_sign T) (hr.mono (by decide)) rfl T.g_law_sign T.k_law_sign T.b_law_sign .nil pass0 (pa_cons (pe_op op_add (pe_callTy call_int1 (by rfl) T.int (by decide +kernel) (pa_cons (pe_op op_fdiv (pv 0) (pe_op op_add (pe_op op_mod (pv 2) pe_int) pe_int)) pa_nil)) (pe_op op_mul (pv 2) (pe_op op_add (pe_op op_mod (pe_callTy call_int1 (by rfl) T.int (by decide +kernel) (pa_cons (pv 0) pa_nil)) pe_int) pe_int))) pa_nil))))))), ?_⟩
    refine ⟨⟨_, rfl⟩, _, rfl, (n : Int), rfl, by omega, by omega, fun D hD => ?_⟩
    refine lc_dp (walk_range (lo := 0) (n := (n : Int).toNat)) (K := K) (V0 := H) (H0 := H) (fun k => some (PyData.str ⟨#[signAt (r / ((k : Int) % 7 + 1) + (k : Int) * (r % 93 + 1))]⟩)) [some (.int r), some (.int (n : Int)), none] rfl (Same.refl _) hD (by omega) (fun _ _ => trivial) (fun i x H H' y => y.1) ?_ ?_
    · rintro i x U H1 hi xx ⟨_, rfl⟩ Qy Qn hy _
      refine ⟨rfl, _, rfl, _, rfl, _, _, rfl, rfl, by show (0 : Int) < 7; decide, _, _, rfl, rfl, _, _, rfl, rfl, ⟨?_, ?_⟩, Or.inl ⟨_, rfl, ?_⟩⟩
      · show (0 : Int) < (0 + (i : Int)) % 7 + 1; omega
      · show (0 + (i : Int)) % 7 + 1 < 1073741824; omega
      refine ⟨_, rfl, _, rfl, Or.inl ⟨_, rfl, ?_⟩⟩
      refine ⟨_, _, rfl, rfl, by show (0 : Int) < 93; decide, _, _, rfl, rfl, _, _, rfl, rfl, Or.inr ⟨by omega, by omega⟩, _, _, rfl, rfl, _, rfl, ?_⟩
      rw [Int.zero_add]
      exact hy _ _ _ _ rfl (Ext.refl xx.vh) (.str _)
    · rintro U H1 xs xx hDU dl _
      rw [show (n : Int).toNat = n by omega, fm_some, show ((List.range n).map fun k : Nat => PyData.str ⟨#[signAt (r / ((k : Int) % 7 + 1) + (k : Int) * (r % 93 + 1))]⟩) = ((lawText r n).map fun c => (⟨#[c]⟩ : Str)).map PyData.str from by unfold lawText; rw [List.map_map, List.map_map]; rfl] at dl
      have e := dp_strsV dl
      subst e
      refine ⟨⟨#[]⟩, D, (lawText r n).map fun c => (⟨#[c]⟩ : Str), by decide +kernel, rfl, .inl (SqL.of (xx.vh _ _ hDU)), ?_, ?_⟩
      · have e : ∀ cs : List Nat, ((cs.map fun c => (⟨#[c]⟩ : Str)).map (·.length)).sum = cs.length := by
          intro cs
          induction cs with
          | nil => rfl
          | cons c cs ih => rw [List.map_cons, List.map_cons, List.sum_cons, ih]; show 1 + cs.length = cs.length + 1; omega
        rw [e, lawText_len]; show n + _ * 0 ≤ _; omega
      · rw [join_singles]
        exact q _ xx.hh
/-! ### arguments: kind, value, octets -/
structure Arg where
  kind : Str
  val : AV
  os : List Int
def bodyOf (args : List Arg) : List Int := args.flatMap Arg.os
theorem body_take {args : List Arg} {i : Nat} {g : Arg} (h : args[i]? = some g) : bodyOf (args.take (i + 1)) = bodyOf (args.take i) ++ g.os := fl_take' Arg.os args i g h
theorem body_le (args : List Arg) (i : Nat) : (bodyOf (args.take i)).length ≤ (bodyOf args).length := fl_le' Arg.os args i
theorem body_len_le {args : List Arg} {c : Nat} (h : ∀ g ∈ args, g.os.length ≤ c) : (bodyOf args).length ≤ c * args.length := by
  induction args with
  | nil => exact Nat.zero_le _
  | cons g r ih =>
    show (g.os ++ bodyOf r).length ≤ c * (r.length + 1)
    rw [List.length_append, Nat.mul_succ]
    have := ih fun x hx => h x (List.mem_cons_of_mem _ hx)
    have := h g List.mem_cons_self
    omega
/-! ### _law_kind, _law_value -/
def kindsL : List Str := ["uint", "int", "text", "octets", "object", "maybe", "new", "bound"]
def sp__law_kind (K : PySem.W.Frag) : Sp := fun vs H Q _ => ∃ (d : Int), vs = [.int d] ∧ ∀ (k : Str) H', Same H H' → k ∈ kindsL → Q (.str k) H'
theorem sc__law_kind : FnScope ["digit"] ["digit"] (defScope s__law_kind) := ⟨rfl, rfl, rfl, by decide +kernel, rfl, by decide +kernel, by decide +kernel⟩
theorem ok__law_kind (T : Txt K mg A) : FnOk P w K mg base CX0 1 A.f_law_kind A.d_law_kind ["digit"] (sp__law_kind K) := by
  refine T.F_law_kind.ok sc__law_kind (fun vs H Q E h => ?_) (fun cdv Ar outer s H vs Q E hr h => ?_)
  · obtain ⟨d, rfl, _⟩ := h
    rfl
  · obtain ⟨d, rfl, q⟩ := h
    refine ⟨_, (pss_one (ps_ret (pe_ix (r := rIxT K) ix_tup (pe_tup (pa_cons pe_str (pa_cons pe_str (pa_cons pe_str (pa_cons pe_str (pa_cons pe_str (pa_cons pe_str (pa_cons pe_str (pa_cons pe_str pa_nil))))))))) (pe_op op_mod (pe_callTy call_int1 (by rfl) T.int (by decide +kernel) (pa_cons (pv 0) pa_nil)) pe_int) (fun _ _ => rfl)))), ?_⟩
    refine ⟨len_line (by show 8 ≤ 100000; decide), fun p hp => ?_⟩
    walk_at "rd"
    have hj : (d % 8).toNat < kindsL.length := by show _ < 8; omega
    refine ⟨p, _, _, .str (kindsL[(d % 8).toNat]), rfl, rfl, SqT.of upd_same, at_of (j := (d % 8).toNat) (by omega) ?_, q _ _ (same_upd hp) (List.getElem_mem hj)⟩
    show (kindsL.map V.str)[(d % 8).toNat]? = _
    rw [List.getElem?_map, List.getElem?_eq_getElem hj]; rfl
/-- a value of the kind, new in what it holds -/
def sp__law_value (K : PySem.W.Frag) : Sp := fun vs H Q _ => ∃ (kind : Str) (r : Int) (U : Hp), vs = [.str kind, .int r] ∧ kind ∈ kindsL ∧ Same U H ∧ ∀ (v : V) (x : AV) (os : List Int) (U' H' : Hp), Ext U H U' H' → ArgSpec kind x true os → ArgAt K U' v x → os.length ≤ 60 → Q v H'
theorem sc__law_value : FnScope ["kind", "row", "big"] ["kind", "row"] (defScope s__law_value) := ⟨rfl, rfl, rfl, by decide +kernel, rfl, by decide +kernel, by decide +kernel⟩
theorem isText_ok' {t : Str} (h : okCodes t.cps.toList) : isText t = decide ((t.length : Int) ≤ 1000) := by
  unfold isText
  rw [List.all_eq_true.mpr h, Bool.and_true]
theorem ok__law_value (T : Txt K mg A) : FnOk P w K mg base CX0 3 A.f_law_value A.d_law_value ["kind", "row"] (sp__law_value K) := by
  refine T.F_law_value.ok sc__law_value (fun vs H Q E h => ?_) (fun cdv Ar outer s H vs Q E hr h => ?_)
  · obtain ⟨k, r, U, rfl, _⟩ := h
    rfl
  · obtain ⟨kind, r, U, rfl, hk, sU, q⟩ := h
    refine ⟨_, (pss_cons (ps_set (i := 2) sc__law_value.nd rfl (Or.inl rfl) (pe_op op_mod (pe_callTy call_int1 (by rfl) T.int (by decide +kernel) (pa_cons (pe_op op_fdiv (pv 1) pe_int) pa_nil)) pe_int))
      (C8.pss_cut (ps_if (pt_cmpR op_eq (pe_op op_mod (pe_callTy call_int1 (by rfl) T.int (by decide +kernel) (pa_cons (pv 1) pa_nil)) pe_int) pe_int (nomark _))
      (pss_one (ps_set (i := 2) sc__law_value.nd rfl (Or.inl rfl) (pe_ix (r := rIxT K) ix_tup (pe_tup (pa_cons pe_int (pa_cons pe_int (pa_cons pe_int (pa_cons pe_int (pa_cons pe_int (pa_cons pe_int (pa_cons pe_int (pa_cons pe_int pa_nil))))))))) (pe_op op_mod (pe_callTy call_int1 (by rfl) T.int (by decide +kernel) (pa_cons (pe_op op_fdiv (pv 1) pe_int) pa_nil)) pe_int) (fun _ _ => rfl))))
      pss_nil)
      (pss_cons (ps_if (pt_cmpR op_eq (pv 0) pe_str (nomark _))
      (pss_one (ps_ret (pe_call (ok__law_text T) (hr.mono (by decide)) rfl T.g_law_text T.k_law_text T.b_law_text .nil pass0 (pa_cons (pe_op op_fdiv (pv 1) pe_int) (pa_cons (pe_op op_mod (pe_callTy call_int1 (by rfl) T.int (by decide +kernel) (pa_cons (pe_op op_fdiv (pv 1) pe_int) pa_nil)) pe_int) pa_nil)))))
      pss_nil)
      (pss_cons (ps_if (pt_cmpR op_eq (pv 0) pe_str (nomark _))
      (pss_one (ps_ret (pe_call (ok__law_octets T) (hr.mono (by decide)) rfl T.g_law_octets T.k_law_octets T.b_law_octets .nil pass0 (pa_cons (pe_op op_fdiv (pv 1) pe_int) (pa_cons (pe_op op_mod (pe_callTy call_int1 (by rfl) T.int (by decide +kernel) (pa_cons (pe_op op_fdiv (pv 1) pe_int) pa_nil)) pe_int) pa_nil)))))
      pss_nil)
      (pss_cons (ps_if (pt_cmpR op_eq (pv 0) pe_str (nomark _))
      (pss_one (ps_ret (pe_tup (pa_cons (pe_call (ok__law_text T) (hr.mono (by decide)) rfl T.g_law_text T.k_law_text T.b_law_text .nil pass0 (pa_cons (pe_op op_fdiv (pv 1) pe_int) (pa_cons (pe_op op_mod (pe_callTy call_int1 (by rfl) T.int (by decide +kernel) (pa_cons (pe_op op_fdiv (pv 1) pe_int) pa_nil)) pe_int) pa_nil))) (pa_cons (pe_callB (call_max2 rfl) (by rfl) T.max (by decide +kernel) (pa_cons pe_int (pa_cons (pv 2) pa_nil))) pa_nil)))))
      pss_nil)
      (pss_cons (ps_if (pt_cmpR op_eq (pv 0) pe_str (nomark _))
      (pss_one (ps_ret (pe_op op_sub (pv 2) pe_int)))
      pss_nil)
      (pss_cons (ps_if (PW.pt (pw_or (pt_cmpR op_eq (pv 0) pe_str (nomark _)) (pw_or1 (pt_cmpR op_eq (pv 0) pe_str (nomark _)))))
      (pss_one (ps_ret (pe_callB (call_max2 rfl) (by rfl) T.max (by decide +kernel) (pa_cons pe_int (pa_cons (pv 2) pa_nil)))))
      pss_nil)
      (pss_one (ps_ret (pv 2)))))))))), ?_⟩
    walk_at "rd"
    refine ⟨fun σ' H' => ∃ b : Int, 0 ≤ b ∧ b ≤ 4294967295 ∧ σ' = [some (.str kind), some (.int r), some (.int b)] ∧ Same H H', ?_, ?_⟩
    · walk_at "rd"
      refine iteEq (fun c => ?_) (fun c => ?_)
      · refine ⟨len_line (by show 8 ≤ 100000; decide), fun p hp => ?_⟩
        walk_at "rd"
        have hj : (r / 3 % 8).toNat < [(0 : Int), 1, 255, 65536, 2147483647, 2147483648, 4294967294, 4294967295].length := by show _ < 8; omega
        have hm := List.getElem_mem hj
        refine ⟨p, _, _, .int ([(0 : Int), 1, 255, 65536, 2147483647, 2147483648, 4294967294, 4294967295][(r / 3 % 8).toNat]), rfl, rfl, SqT.of upd_same, at_of (j := (r / 3 % 8).toNat) (by omega) ?_, _, ?_, ?_, rfl, same_upd hp⟩
        · show ([(0 : Int), 1, 255, 65536, 2147483647, 2147483648, 4294967294, 4294967295].map V.int)[(r / 3 % 8).toNat]? = _
          rw [List.getElem?_map, List.getElem?_eq_getElem hj]; rfl
        · generalize [(0 : Int), 1, 255, 65536, 2147483647, 2147483648, 4294967294, 4294967295][(r / 3 % 8).toNat] = z at hm
          simp only [List.mem_cons, List.not_mem_nil, or_false] at hm
          omega
        · generalize [(0 : Int), 1, 255, 65536, 2147483647, 2147483648, 4294967294, 4294967295][(r / 3 % 8).toNat] = z at hm
          simp only [List.mem_cons, List.not_mem_nil, or_false] at hm
          omega
      · exact ⟨_, by omega, by omega, rfl, Same.refl H⟩
    rintro σ' H1 ⟨b, hb0, hb1, rfl, s1⟩
    have num : ∀ {lo hi : Int} (i : Int), NumKind kind lo hi → lo ≤ i → i ≤ hi → Q (.int i) H1 := fun i hn h0 h1 =>
      q (.int i) (.num i) (octs (i % 4294967296) 4) U H1 ⟨Same.refl U, sU.trans s1, s1, fun _ h => Or.inl h⟩ (by have := ArgSpec.num (i := i) hn; rw [decide_eq_true ⟨h0, h1⟩] at this; exact this) rfl (by rw [octs_len]; decide)
    have neq : ∀ {A B : Prop} (x : Str), kind ≠ x → B → if decide (V.str kind = V.str x) = true then A else B := fun x h hB => if_f (decide_eq_false fun z => h (V.str.inj z)) hB
    have txt : ∀ (n : Nat), n < 23 → ∀ (r2 : Int), isText (lawTextS r2 n) = true ∧ (lawTextS r2 n).length < 80000 ∧ (textOcts (lawTextS r2 n)).length ≤ 40 := fun n hn r2 => by
      have l := lawTextS_len r2 n
      refine ⟨?_, by omega, ?_⟩
      · rw [isText_ok' (lawTextS_ok r2 n), l]; exact decide_eq_true (by omega)
      · have := textOcts_len (lawTextS r2 n); omega
    have hn23 : (r / 7 % 23).toNat < 23 ∧ (((r / 7 % 23).toNat : Nat) : Int) = r / 7 % 23 := by omega
    -- kind == 'text'
    refine ⟨_, rfl, rfl, _, rfl, if_b (fun c => ?_) (fun c => ?_)⟩
    · have e : kind = "text" := V.str.inj (of_decide_eq_true c)
      subst e
      refine ⟨_, rfl, _, _, rfl, rfl, ⟨by decide, by decide⟩, _, rfl, _, _, rfl, rfl, ⟨by decide, by decide⟩, Or.inl ⟨_, rfl, ?_⟩⟩
      refine ⟨_, _, rfl, rfl, by show (0 : Int) < 23; decide, r / 5, (r / 7 % 23).toNat, ?_, by omega, fun H2 s2 => ?_⟩
      · rw [hn23.2]; rfl
      obtain ⟨t1, t2, t3⟩ := txt (r / 7 % 23).toNat hn23.1 (r / 5)
      refine q _ (.txt (lawTextS (r / 5) (r / 7 % 23).toNat)) _ U H2 ⟨Same.refl U, sU.trans (s1.trans s2), s1.trans s2, fun _ h => Or.inl h⟩ (by have := ArgSpec.txt (s := lawTextS (r / 5) (r / 7 % 23).toNat); rw [t1] at this; exact this) ⟨rfl, t2⟩ (by omega)
    have n1 : kind ≠ "text" := fun z => by rw [z, decide_eq_true rfl] at c; cases c
    refine ⟨_, rfl, rfl, _, rfl, if_b (fun c => ?_) (fun c => ?_)⟩
    · have e : kind = "octets" := V.str.inj (of_decide_eq_true c)
      subst e
      refine ⟨_, rfl, _, _, rfl, rfl, ⟨by decide, by decide⟩, _, rfl, _, _, rfl, rfl, ⟨by decide, by decide⟩, Or.inl ⟨_, rfl, ?_⟩⟩
      refine ⟨_, _, rfl, rfl, by show (0 : Int) < 23; decide, r / 5, (r / 7 % 23).toNat, ?_, by omega, fun p H2 n2 => ?_⟩
      · rw [hn23.2]; rfl
      have hl := lawOcts_len (r / 5) (r / 7 % 23).toNat
      have hok : octsOk (lawOcts (r / 5) (r / 7 % 23).toNat) = true := by
        unfold octsOk; rw [lawOcts_ok, hl, Bool.and_true]; exact decide_eq_true (by omega)
      have n2' : NewL H H2 p ((lawOcts (r / 5) (r / 7 % 23).toNat).map V.int) := ⟨s1.free n2.new, s1.trans n2.same, n2.at_⟩
      refine q _ (.oct (lawOcts (r / 5) (r / 7 % 23).toNat)) _ _ H2 (n2'.ext sU) (by have := ArgSpec.oct (xs := lawOcts (r / 5) (r / 7 % 23).toNat); rw [hok] at this; exact this) ⟨p, rfl, upd_same, by omega⟩ ?_
      rw [pad_len, List.length_append, octs_len, hl]
      have := padN_lt (4 + (r / 7 % 23).toNat)
      omega
    have n2 : kind ≠ "octets" := fun z => by rw [z, decide_eq_true rfl] at c; cases c
    have mx : ∀ (m : Int), m = (if b > 1 then b else 1) → 1 ≤ m ∧ m ≤ 4294967295 := fun m e => by rw [e]; split <;> omega
    refine ⟨_, rfl, rfl, _, rfl, if_b (fun c => ?_) (fun c => ?_)⟩
    · have e : kind = "bound" := V.str.inj (of_decide_eq_true c)
      subst e
      refine ⟨_, rfl, _, _, rfl, rfl, ⟨by decide, by decide⟩, _, rfl, _, _, rfl, rfl, ⟨by decide, by decide⟩, Or.inl ⟨_, rfl, ?_⟩⟩
      refine ⟨_, _, rfl, rfl, by show (0 : Int) < 23; decide, r / 5, (r / 7 % 23).toNat, ?_, by omega, fun H2 s2 => ?_⟩
      · rw [hn23.2]; rfl
      obtain ⟨t1, t2, t3⟩ := txt (r / 7 % 23).toNat hn23.1 (r / 5)
      generalize lawTextS (r / 5) (r / 7 % 23).toNat = t at t1 t2 t3 ⊢
      refine ⟨_, rfl, _, _, rfl, len_line (by show 2 ≤ 100000; decide), fun p hp => ?_⟩
      obtain ⟨m0, m1⟩ := mx _ rfl
      generalize (if b > 1 then b else 1) = m at m0 m1 hp ⊢
      have hpH : H p = none := (s1.trans s2).free hp
      refine q (.ref p) (.bnd t m) _ _ _ ((Ext.new (o := .tup [.str t, .int m]) sU hpH).trans ⟨Same.refl _, ?_, ?_, fun _ h => Or.inl h⟩) (by have := ArgSpec.bnd (s := t) (n := m); rw [t1, decide_eq_true ⟨m0, m1⟩] at this; exact this) ⟨p, rfl, SqT.of upd_same, t2⟩ ?_
      · intro c u e
        by_cases hc : c = p
        · subst hc; rw [upd_same] at e ⊢; exact e
        · rw [upd_ne hc] at e ⊢; exact (sU.trans (s1.trans s2)) c u e
      · intro c u e
        by_cases hc : c = p
        · subst hc; rw [upd_same] at e ⊢; exact e
        · rw [upd_ne hc] at e ⊢; exact (s1.trans s2) c u e
      · rw [List.length_append, octs_len]; omega
    have n3 : kind ≠ "bound" := fun z => by rw [z, decide_eq_true rfl] at c; cases c
    refine ⟨_, rfl, rfl, _, rfl, if_b (fun c => ?_) (fun c => ?_)⟩
    · have e : kind = "int" := V.str.inj (of_decide_eq_true c)
      subst e
      exact ⟨_, rfl, _, _, rfl, rfl, num _ .int (by omega) (by omega)⟩
    have n4 : kind ≠ "int" := fun z => by rw [z, decide_eq_true rfl] at c; cases c
    obtain ⟨m0, m1⟩ := mx _ rfl
    refine ⟨_, rfl, rfl, _, rfl, if_b (fun c => ?_) (fun c => ?_)⟩
    · have e : kind = "object" := V.str.inj (of_decide_eq_true c)
      subst e
      exact if_t rfl ⟨_, rfl, _, _, rfl, num _ .object m0 m1⟩
    have n5 : kind ≠ "object" := fun z => by rw [z, decide_eq_true rfl] at c; cases c
    refine ⟨_, rfl, rfl, _, rfl, if_b (fun c => ?_) (fun c => ?_)⟩
    · have e : kind = "new" := V.str.inj (of_decide_eq_true c)
      subst e
      exact ⟨_, rfl, _, _, rfl, num _ .new m0 m1⟩
    have n6 : kind ≠ "new" := fun z => by rw [z, decide_eq_true rfl] at c; cases c
    have hk2 : kind = "uint" ∨ kind = "maybe" := by
      unfold kindsL at hk
      simp only [List.mem_cons, List.not_mem_nil, or_false] at hk
      rcases hk with h | h | h | h | h | h | h | h
      · exact Or.inl h
      · exact absurd h n4
      · exact absurd h n1
      · exact absurd h n2
      · exact absurd h n5
      · exact Or.inr h
      · exact absurd h n6
      · exact absurd h n3
    rcases hk2 with rfl | rfl
    · exact ⟨_, rfl, num _ .uint hb0 hb1⟩
    · exact ⟨_, rfl, num _ .maybe hb0 hb1⟩
/-! ### number_at, _cut, cut_messages -/
def numAt (xs : List Int) (at_ c : Nat) : Int := ((List.range c).map fun k => xs.getD (at_ + k) 0 * 2 ^ (8 * k)).sum
theorem numAt2 (xs : List Int) (p : Nat) : numAt xs p 2 = xs.getD p 0 + 256 * xs.getD (p + 1) 0 := by
  show xs.getD (p + 0) 0 * 2 ^ 0 + (xs.getD (p + 1) 0 * 2 ^ 8 + 0) = _
  rw [Nat.add_zero]; omega
theorem numAt4 (xs : List Int) (p : Nat) : numAt xs p 4 = xs.getD p 0 + 256 * xs.getD (p + 1) 0 + 65536 * xs.getD (p + 2) 0 + 16777216 * xs.getD (p + 3) 0 := by
  show xs.getD (p + 0) 0 * 2 ^ 0 + (xs.getD (p + 1) 0 * 2 ^ 8 + (xs.getD (p + 2) 0 * 2 ^ 16 + (xs.getD (p + 3) 0 * 2 ^ 24 + 0))) = _
  rw [Nat.add_zero]; omega
def okOcts (xs : List Int) : Prop := ∀ x ∈ xs, 0 ≤ x ∧ x ≤ 255
theorem getD_at {xs : List Int} {i : Nat} (h : i < xs.length) : (xs.map V.int)[i]? = some (.int (xs.getD i 0)) := by
  rw [List.getElem?_map, List.getElem?_eq_getElem h, List.getD_eq_getElem?_getD, List.getElem?_eq_getElem h]; rfl
theorem okOcts.get {xs : List Int} (h : okOcts xs) (i : Nat) : 0 ≤ xs.getD i 0 ∧ xs.getD i 0 ≤ 255 := by
  rw [List.getD_eq_getElem?_getD]
  cases e : xs[i]? with
  | none => decide
  | some x => exact h x (List.mem_of_getElem? e)
def sp_number_at (K : PySem.W.Frag) : Sp := fun vs H Q _ => ∃ (a : Addr) (xs : List Int) (p c : Nat), vs = [.ref a, .int (p : Int), .int (c : Int)] ∧ SqL K H a (xs.map V.int) ∧ okOcts xs ∧ p + c ≤ xs.length ∧ c ≤ 1000 ∧ ∀ H', Same H H' → Q (.int (numAt xs p c)) H'
theorem sc_number_at : FnScope ["octets", "at", "count", "place"] ["octets", "at", "count"] (defScope s_number_at) := ⟨rfl, rfl, rfl, by decide +kernel, rfl, by decide +kernel, by decide +kernel⟩
theorem ok_number_at (T : Txt K mg A) : FnOk P w K mg base CX0 1 A.fnumber_at A.dnumber_at ["octets", "at", "count"] (sp_number_at K) := by
  refine T.Fnumber_at.ok sc_number_at (fun vs H Q E h => ?_) (fun cdv Ar outer s H vs Q E hr h => ?_)
  · obtain ⟨a, xs, p, c, rfl, _⟩ := h
    rfl
  · obtain ⟨a, xs, p, c, rfl, hS, ho, hl, hc, q⟩ := h
    refine ⟨_, (pss_one (ps_ret (pe_callB (cr_sum rfl) (by rfl) T.sum (by decide +kernel) (pa_cons (pe_lc (own := [("place", 3)]) (g := (gName 3)) (tt := tYes) rfl sc_number_at.nd (pi_range1 (by rfl) T.range (pa_cons (pv 2) pa_nil)) (blkOk_by (own := [("place", 3)]) (N := ["octets", "at", "count", "place"]) (sc := defScope s_number_at) (by decide +kernel)) (fun _ _ _ _ _ => (pg_name (i := 3) sc_number_at.nd rfl (Or.inl rfl))) (fun _ _ _ _ _ => pts_nil) (fun _ _ _ _ _ => by exact (pe_op op_shl (pe_ix (r := rIxL K) ix_list (pv 0) (pe_op op_add (pv 1) (pv 3)) (fun _ _ => rfl)) (pe_op op_mul pe_int (pv 3))))) pa_nil)))), ?_⟩
    refine ⟨_, rfl, (c : Int), rfl, by omega, by omega, fun D hD => ?_⟩
    refine lc_dp (walk_range (lo := 0) (n := (c : Int).toNat)) (K := K) (V0 := H) (H0 := H) (fun k => some (PyData.int (xs.getD (p + k) 0 * 2 ^ (8 * k)))) [some (.ref a), some (.int (p : Int)), some (.int (c : Int)), none] rfl (Same.refl _) hD (by omega) (fun _ _ => trivial) (fun i x H H' y => y.1) ?_ ?_
    · rintro i x U H1 hi xx ⟨_, rfl⟩ Qy Qn hy _
      have hb := ho.get (p + i)
      have e1 : (8 * (0 + (i : Int))).toNat = 8 * i := by omega
      refine ⟨rfl, _, rfl, _, rfl, _, rfl, _, _, rfl, rfl, a, _, _, .int (xs.getD (p + i) 0), rfl, rfl, xx.hh.seq hS, at_of (j := p + i) (by omega) (getD_at (by omega)), ?_⟩
      refine ⟨_, rfl, _, _, rfl, rfl, Or.inl ⟨by decide, by decide⟩, _, _, rfl, rfl, ⟨?_, ?_, ?_⟩, ?_⟩
      · show (0 : Int) ≤ 8 * (0 + (i : Int)); omega
      · show 8 * (0 + (i : Int)) ≤ 1000000; omega
      · have : (xs.getD (p + i) 0).natAbs ≤ 255 := by omega
        exact Nat.lt_of_le_of_lt this (by decide)
      · dsimp only
        rw [e1]
        exact hy _ _ _ _ rfl (Ext.refl xx.vh) (.int _)
    · rintro U H1 ys xx hDU dl _
      rw [show (c : Int).toNat = c by omega, fm_some, show ((List.range c).map fun k => PyData.int (xs.getD (p + k) 0 * 2 ^ (8 * k))) = ((List.range c).map fun k => xs.getD (p + k) 0 * 2 ^ (8 * k)).map PyData.int from by rw [List.map_map]; rfl] at dl
      have e := dp_intsV dl
      subst e
      exact ⟨D, _, rfl, SqL.of (xx.vh _ _ hDU), q _ xx.hh⟩
theorem cutV_nat {xs : List V} {i j : Nat} (h : i ≤ j) (hj : j ≤ xs.length) : cutV xs (some (i : Int)) (some (j : Int)) = (xs.drop i).take (j - i) := by
  unfold cutV
  rw [HT.sIx_nat, HT.sIx_nat, Nat.min_eq_left (show i ≤ xs.length by omega), Nat.min_eq_left hj]
/-! ### a rule: any(xs) of a list of ints -/
section
open PySem.Spec PyProof.Rows
theorem truth_ints {prog : Program} {w : World} {A : Around} {is : List Int} {its : List Value} (e : Vals (is.map V.int) its) :
    TruthOf prog w A (fun i v => its.toArray[i]? = some v) (fun i => (is.map fun x => (x != 0)).getD i false) := fun i v s Q E hv hq => by
  have hv' : its[i]? = some v := by simpa using hv
  have hlen : is.length = its.length := by rw [← e.length, List.length_map]
  have hi : i < is.length := by rw [hlen]; exact (List.getElem?_eq_some_iff.mp hv').1
  obtain ⟨u, hu, r⟩ := e.get (i := i) (x := .int is[i]) (by rw [List.getElem?_map, List.getElem?_eq_getElem hi]; rfl)
  rw [hv'] at hu
  obtain rfl := Option.some.inj hu
  obtain ⟨t, rfl⟩ := r
  have hg : (is.map fun x => (x != 0)).getD i false = (is[i] != 0) := by rw [List.getD_eq_getElem?_getD, List.getElem?_map, List.getElem?_eq_getElem hi]; rfl
  have hq' : Q ((is.map fun x => (x != 0)).getD i false) s := hq
  rw [hg] at hq'
  exact truthy_int hq'
def rAnyI (K : PySem.W.Frag) : List V → Hp → VK → Prop := fun vs H Q => ∃ (a : Addr) (is : List Int), vs = [V.ref a] ∧ SqL K H a (is.map V.int) ∧ Q (.bl (is.any fun x => (x != 0))) H
theorem cr_anyI {X : Cx} (hc : X.calm = true) : CallR X (.builtin "any") (rAnyI X.K) := by
  intro pins s σ H vs us Q I r h
  obtain ⟨a, is, rfl, hs, q⟩ := h
  obtain ⟨its, rv, hl, _⟩ := I.list hs
  rw [Vals.ref1 r]
  have hlen : is.length = its.length := by rw [← rv.length, List.length_map]
  refine call_any_walk (iter_any hl.isList fun s₂ e2 st hne => ?_)
  subst e2
  refine ⟨_, _, _, _, _, _, _, rfl, Walks.list (A := X.A.in1) (I.ok.hd hc) _ a hne its.toArray, st, truth_ints rv, fun h' tk hk => ?_⟩
  refine ⟨.bl _, H, I.kept fun b o eo => hk b o (fun hmem => ?_) (Heap.get?_push_of_some _ eo), ?_, q⟩
  · rcases List.mem_cons.mp hmem with e1 | hmem
    · exact absurd (e1 ▸ Heap.lt_size eo) (Nat.lt_irrefl _)
    · cases hmem
  · show Value.bool _ = Value.bool _
    have := any_range (is.map fun x => (x != 0))
    rw [List.length_map, hlen] at this
    rw [List.size_toArray, this, List.any_map]; rfl
end
/-! ### the reader: a model -/
inductive RErr
  | len | text | pad | miss
def rdNum (xs : List Int) (a : Nat) : Except RErr (Int × Nat) := if xs.length < a + 4 then .error .len else .ok (numAt xs a 4, a + 4)
def rdNamed (xs : List Int) (a : Nat) : Except RErr (Int × Nat) := match rdNum xs a with
  | .error e => .error e
  | .ok (n, b) => if n = 0 then .error .miss else .ok (n, b)
def rdPad (xs : List Int) (e : Nat) : Except RErr Nat :=
  if xs.length < e + padN e then .error .len else if ((xs.drop e).take (padN e)).any (fun x => (x != 0)) = true then .error .pad else .ok (e + padN e)
def codesS (cs : List Int) : Str := ⟨(cs.map Int.toNat).toArray⟩
def rdText (xs : List Int) (a : Nat) : Except RErr (Str × Nat) := match rdNum xs a with
  | .error e => .error e
  | .ok (l, b) => if ¬ (1 ≤ l ∧ l ≤ 1001) then .error .len else if xs.length < b + l.toNat then .error .len else
    if xs.getD (b + l.toNat - 1) 0 ≠ 0 ∨ ((xs.drop b).take (l.toNat - 1)).all codeOk = false then .error .text else
    match rdPad xs (b + l.toNat) with
    | .error e => .error e
    | .ok c => .ok (codesS ((xs.drop b).take (l.toNat - 1)), c)
def rdOcts (xs : List Int) (a : Nat) : Except RErr (List Int × Nat) := match rdNum xs a with
  | .error e => .error e
  | .ok (l, b) => if 16384 < l then .error .len else
    match rdPad xs (b + l.toNat) with
    | .error e => .error e
    | .ok c => .ok ((xs.drop b).take l.toNat, c)
def rdBound (xs : List Int) (a : Nat) : Except RErr (AV × Nat) := match rdText xs a with
  | .error e => .error e
  | .ok (s, b) => match rdNamed xs b with
    | .error e => .error e
    | .ok (n, c) => .ok (.bnd s n, c)
def rdKind (k : Str) (xs : List Int) (a : Nat) : Except RErr (AV × Nat) :=
  if k = "text" then (match rdText xs a with | .error e => .error e | .ok (s, b) => .ok (.txt s, b))
  else if k = "octets" then (match rdOcts xs a with | .error e => .error e | .ok (s, b) => .ok (.oct s, b))
  else if k = "bound" then rdBound xs a
  else if k = "object" ∨ k = "new" then (match rdNamed xs a with | .error e => .error e | .ok (s, b) => .ok (.num s, b))
  else match rdNum xs a with
    | .error e => .error e
    | .ok (n, b) => .ok (.num (if k = "int" ∧ 2147483647 < n then n - 4294967296 else n), b)
/-- what a reader of the octets xs from p promises: err: what each of its errors gives -/
structure Src (K : PySem.W.Frag) (H : Hp) (a : Addr) (xs : List Int) : Prop where
  at_ : SqL K H a (xs.map V.int)
  ok : okOcts xs
  len : xs.length < 100000
theorem Src.to {K : PySem.W.Frag} {H H' : Hp} {a : Addr} {xs : List Int} (h : Src K H a xs) (s : Same H H') : Src K H' a xs := ⟨s.seq h.at_, h.ok, h.len⟩
theorem cut_ints {xs : List Int} {i j : Nat} (h : i ≤ j) (hj : j ≤ xs.length) : cutV (xs.map V.int) (some (i : Int)) (some (j : Int)) = ((xs.drop i).take (j - i)).map V.int := by
  have := cutV_nat (xs := xs.map V.int) (i := i) (j := j) h (by rw [List.length_map]; exact hj)
  rw [List.map_take, List.map_drop]
  exact this
def sp__demand (K : PySem.W.Frag) (c : RErr → Addr) : Sp := fun vs H Q E => ∃ (a : Addr) (xs : List Int) (e : Nat), vs = [.ref a, .int (e : Int)] ∧ SqL K H a (xs.map V.int) ∧ (xs.length < e → E (.ref (c .len)) none H) ∧ (¬ xs.length < e → Q .non H)
def errOf (A : Adr) : RErr → Addr
  | .len => A.CBadLength
  | .text => A.CBadText
  | .pad => A.CBadPadding
  | .miss => A.CObjectMissing
theorem sc__demand : FnScope ["octets", "end"] ["octets", "end"] (defScope s__demand) := ⟨rfl, rfl, rfl, by decide +kernel, rfl, by decide +kernel, by decide +kernel⟩
theorem ok__demand (T : Txt K mg A) : FnOk P w K mg base (L2.CX P w) 1 A.f_demand A.d_demand ["octets", "end"] (sp__demand K (errOf A)) := by
  refine T.F_demand.okX sc__demand (fun vs H Q E h => ?_) (fun cdv Ar outer s H vs Q E hr h => ?_)
  · obtain ⟨a, xs, e, rfl, _⟩ := h
    rfl
  · obtain ⟨a, xs, e, rfl, hS, qe, q⟩ := h
    refine ⟨_, (pss_one (ps_if (pt_cmpR op_lt (pe_callB call_len_seq (by rfl) T.len PySem.boot_len (pa_cons (pv 0) pa_nil)) (pv 1) (nomark _))
      (pss_one (ps_raise rfl (takes_of rfl rfl rfl rfl) (pmk_own PySem.F.excBase_ValueError T.xBadLength T.gBadLength T.kBadLength (raises_own T.bxBadLength T.txBadLength) rfl)))
      pss_nil)), ?_⟩
    refine ⟨_, rfl, a, _, rfl, .inl hS, _, rfl, _, _, rfl, rfl, _, rfl, ?_⟩
    rw [List.length_map]
    exact iteP (fun c => qe (by omega)) (fun c => q (by omega))
def sp__read_number (K : PySem.W.Frag) (c : RErr → Addr) : Sp := fun vs H Q E => ∃ (a : Addr) (xs : List Int) (p : Nat), vs = [.ref a, .int (p : Int)] ∧ Src K H a xs ∧
  (∀ e, rdNum xs p = .error e → E (.ref (c e)) none H) ∧ (∀ n b t H', rdNum xs p = .ok (n, b) → Same H H' → SqT K H' t [.int n, .int (b : Int)] → Q (.ref t) H')
theorem sc__read_number : FnScope ["octets", "at"] ["octets", "at"] (defScope s__read_number) := ⟨rfl, rfl, rfl, by decide +kernel, rfl, by decide +kernel, by decide +kernel⟩
theorem ok__read_number (T : Txt K mg A) : FnOk P w K mg base (L2.CX P w) 2 A.f_read_number A.d_read_number ["octets", "at"] (sp__read_number K (errOf A)) := by
  refine T.F_read_number.okX sc__read_number (fun vs H Q E h => ?_) (fun cdv Ar outer s H vs Q E hr h => ?_)
  · obtain ⟨a, xs, p, rfl, _⟩ := h
    rfl
  · obtain ⟨a, xs, p, rfl, hS, qe, q⟩ := h
    refine ⟨_, (pss_cons (ps_expr (pe_call (ok__demand T) (hr.mono (by decide)) rfl T.g_demand T.k_demand T.b_demand .nil (passes_call (takes_of rfl rfl rfl rfl) (fun _ _ _ _ h => h)) (pa_cons (pv 0) (pa_cons (pe_op op_add (pv 1) pe_int) pa_nil))))
      (pss_one (ps_ret (pe_tup (pa_cons (pe_call (ok_number_at T) (hr.mono (by decide)) rfl T.gnumber_at T.knumber_at T.bnumber_at .nil pass0 (pa_cons (pv 0) (pa_cons (pv 1) (pa_cons pe_int pa_nil)))) (pa_cons (pe_op op_add (pv 1) pe_int) pa_nil)))))), ?_⟩
    unfold rdNum at qe q
    refine ⟨_, rfl, _, rfl, _, _, rfl, rfl, a, xs, p + 4, rfl, hS.at_, fun c => qe .len (by rw [if_pos c]), fun c => ?_⟩
    rw [if_neg c] at q
    refine ⟨_, rfl, _, rfl, a, xs, p, 4, rfl, hS.at_, hS.ok, by omega, by decide, fun H1 s1 => ?_⟩
    exact ⟨_, rfl, _, _, rfl, rfl, len_line (by show 2 ≤ 100000; decide), fun t ht => q _ _ t _ rfl (s1.trans (same_upd ht)) (SqT.of upd_same)⟩
def sp__read_named (K : PySem.W.Frag) (c : RErr → Addr) : Sp := fun vs H Q E => ∃ (a : Addr) (xs : List Int) (p : Nat), vs = [.ref a, .int (p : Int)] ∧ Src K H a xs ∧
  (∀ e H', rdNamed xs p = .error e → Same H H' → E (.ref (c e)) none H') ∧ (∀ n b t H', rdNamed xs p = .ok (n, b) → Same H H' → SqT K H' t [.int n, .int (b : Int)] → Q (.ref t) H')
theorem sc__read_named : FnScope ["octets", "at", "number", "behind"] ["octets", "at"] (defScope s__read_named) := ⟨rfl, rfl, rfl, by decide +kernel, rfl, by decide +kernel, by decide +kernel⟩
theorem ok__read_named (T : Txt K mg A) : FnOk P w K mg base (L2.CX P w) 3 A.f_read_named A.d_read_named ["octets", "at"] (sp__read_named K (errOf A)) := by
  refine T.F_read_named.okX sc__read_named (fun vs H Q E h => ?_) (fun cdv Ar outer s H vs Q E hr h => ?_)
  · obtain ⟨a, xs, p, rfl, _⟩ := h
    rfl
  · obtain ⟨a, xs, p, rfl, hS, qe, q⟩ := h
    refine ⟨_, (pss_cons (ps_asg (pe_call (ok__read_number T) (hr.mono (by decide)) rfl T.g_read_number T.k_read_number T.b_read_number .nil (passes_call (takes_of rfl rfl rfl rfl) (fun _ _ _ _ h => h)) (pa_cons (pv 0) (pa_cons (pv 1) pa_nil))) (pg_tup rfl (pgs_cons (pg_name (i := 2) sc__read_named.nd rfl (Or.inl rfl)) (pgs_cons (pg_name (i := 3) sc__read_named.nd rfl (Or.inl rfl)) pgs_nil))))
      (pss_cons (ps_if (pt_cmpR op_eq (pv 2) pe_int (nomark _))
      (pss_one (ps_raise rfl (takes_of rfl rfl rfl rfl) (pmk_own PySem.F.excBase_ValueError T.xObjectMissing T.gObjectMissing T.kObjectMissing (raises_own T.bxObjectMissing T.txObjectMissing) rfl)))
      pss_nil)
      (pss_one (ps_ret (pe_tup (pa_cons (pv 2) (pa_cons (pv 3) pa_nil))))))), ?_⟩
    unfold rdNamed at qe q
    refine ⟨_, rfl, _, rfl, a, xs, p, rfl, hS, fun e he => qe e H (by rw [he]) (Same.refl H), fun n b t H1 he s1 ht => ?_⟩
    rw [he] at qe q
    refine ⟨t, _, rfl, ht, rfl, _, _, rfl, _, _, rfl, rfl, ?_⟩
    refine ⟨_, rfl, rfl, _, rfl, iteEq (fun c => ?_) (fun c => ?_)⟩
    · exact qe .miss H1 (if_pos c) s1
    · exact ⟨_, rfl, _, rfl, len_line (by show 2 ≤ 100000; decide), fun t ht => q _ _ t _ (if_neg c) (s1.trans (same_upd ht)) (SqT.of upd_same)⟩
def sp__behind_padding (K : PySem.W.Frag) (c : RErr → Addr) : Sp := fun vs H Q E => ∃ (a : Addr) (xs : List Int) (p : Nat), vs = [.ref a, .int (p : Int)] ∧ Src K H a xs ∧
  (∀ e H', rdPad xs p = .error e → Same H H' → E (.ref (c e)) none H') ∧ (∀ b H', rdPad xs p = .ok b → Same H H' → Q (.int (b : Int)) H')
theorem sc__behind_padding : FnScope ["octets", "end", "behind"] ["octets", "end"] (defScope s__behind_padding) := ⟨rfl, rfl, rfl, by decide +kernel, rfl, by decide +kernel, by decide +kernel⟩
theorem ok__behind_padding (T : Txt K mg A) : FnOk P w K mg base (L2.CX P w) 2 A.f_behind_padding A.d_behind_padding ["octets", "end"] (sp__behind_padding K (errOf A)) := by
  refine T.F_behind_padding.okX sc__behind_padding (fun vs H Q E h => ?_) (fun cdv Ar outer s H vs Q E hr h => ?_)
  · obtain ⟨a, xs, p, rfl, _⟩ := h
    rfl
  · obtain ⟨a, xs, p, rfl, hS, qe, q⟩ := h
    refine ⟨_, (pss_cons (ps_set (i := 2) sc__behind_padding.nd rfl (Or.inl rfl) (pe_op op_add (pv 1) (pe_op op_mod (pe_un un_neg (pv 1)) pe_int)))
      (pss_cons (ps_expr (pe_call (ok__demand T) (hr.mono (by decide)) rfl T.g_demand T.k_demand T.b_demand .nil (passes_call (takes_of rfl rfl rfl rfl) (fun _ _ _ _ h => h)) (pa_cons (pv 0) (pa_cons (pv 2) pa_nil))))
      (pss_cons (ps_if (pt_val (pe_callB (cr_anyI rfl) (by rfl) T.any (by decide +kernel) (pa_cons (pe_slice (r := rSlL K) sl_list (pv 0) (po_some (pv 1)) (po_some (pv 2))) pa_nil)))
      (pss_one (ps_raise rfl (takes_of rfl rfl rfl rfl) (pmk_own PySem.F.excBase_ValueError T.xBadPadding T.gBadPadding T.kBadPadding (raises_own T.bxBadPadding T.txBadPadding) rfl)))
      pss_nil)
      (pss_one (ps_ret (pv 2)))))), ?_⟩
    unfold rdPad at qe q
    refine ⟨_, rfl, _, rfl, _, rfl, _, _, rfl, rfl, by show (0 : Int) < 4; decide, _, _, rfl, rfl, ?_⟩
    have ep : (p : Int) + -(p : Int) % 4 = ((p + padN p : Nat) : Int) := by unfold padN; omega
    dsimp only
    rw [ep]
    refine ⟨_, rfl, _, rfl, a, xs, p + padN p, rfl, hS.at_, fun c => qe .len H (by rw [if_pos c]) (Same.refl H), fun c => ?_⟩
    rw [if_neg c] at qe q
    refine ⟨_, rfl, _, rfl, _, rfl, _, rfl, _, rfl, a, _, rfl, hS.at_, fun b hb => ?_⟩
    rw [cut_ints (by omega) (by omega), show p + padN p - p = padN p by omega]
    have sb := same_upd (o := .lst (((xs.drop p).take (padN p)).map V.int)) hb
    refine ⟨b, _, rfl, SqL.of upd_same, _, rfl, if_b (fun c2 => qe .pad _ (if_pos c2) sb) (fun c2 => ⟨_, rfl, q _ _ (if_neg (by rw [c2]; decide)) sb⟩)⟩
theorem chars_at {c : Int} (h : codeOk c = true) : 0 ≤ c - 32 ∧ (" !\"#$ &'()*+,-./0123456789:;<=>?@ABCDEFGHIJKLMNOPQRSTUVWXYZ[\\]^_`abcdefghijklmnopqrstuvwxyz{|}~" : Str).cps.toList[(c - 32).toNat]? = some c.toNat := by
  have hc := of_decide_eq_true h
  refine ⟨by omega, ?_⟩
  have : ∀ k : Fin 95, k.val ≠ 5 → (" !\"#$ &'()*+,-./0123456789:;<=>?@ABCDEFGHIJKLMNOPQRSTUVWXYZ[\\]^_`abcdefghijklmnopqrstuvwxyz{|}~" : Str).cps.toList[k.val]? = some (k.val + 32) := by decide +kernel
  have := this ⟨(c - 32).toNat, by omega⟩ (by show (c - 32).toNat ≠ 5; omega)
  rw [show c.toNat = (c - 32).toNat + 32 by omega]
  exact this
def sp__read_octets (K : PySem.W.Frag) (c : RErr → Addr) : Sp := fun vs H Q E => ∃ (a : Addr) (xs : List Int) (p : Nat) (U : Hp), vs = [.ref a, .int (p : Int)] ∧ Src K H a xs ∧ Same U H ∧
  (∀ e H', rdOcts xs p = .error e → Same H H' → E (.ref (c e)) none H') ∧
  (∀ ys b v t U' H', rdOcts xs p = .ok (ys, b) → Ext U H U' H' → U' v = some (.lst (ys.map V.int)) → SqT K H' t [.ref v, .int (b : Int)] → Q (.ref t) H')
theorem sc__read_octets : FnScope ["octets", "at", "length", "begin", "end", "behind"] ["octets", "at"] (defScope s__read_octets) := ⟨rfl, rfl, rfl, by decide +kernel, rfl, by decide +kernel, by decide +kernel⟩
theorem ok__read_octets (T : Txt K mg A) : FnOk P w K mg base (L2.CX P w) 3 A.f_read_octets A.d_read_octets ["octets", "at"] (sp__read_octets K (errOf A)) := by
  refine T.F_read_octets.okX sc__read_octets (fun vs H Q E h => ?_) (fun cdv Ar outer s H vs Q E hr h => ?_)
  · obtain ⟨a, xs, p, U, rfl, _⟩ := h
    rfl
  · obtain ⟨a, xs, p, U, rfl, hS, sU, qe, q⟩ := h
    refine ⟨_, (pss_cons (ps_asg (pe_call (ok__read_number T) (hr.mono (by decide)) rfl T.g_read_number T.k_read_number T.b_read_number .nil (passes_call (takes_of rfl rfl rfl rfl) (fun _ _ _ _ h => h)) (pa_cons (pv 0) (pa_cons (pv 1) pa_nil))) (pg_tup rfl (pgs_cons (pg_name (i := 2) sc__read_octets.nd rfl (Or.inl rfl)) (pgs_cons (pg_name (i := 3) sc__read_octets.nd rfl (Or.inl rfl)) pgs_nil))))
      (pss_cons (ps_if (pt_cmpR op_gt (pv 2) (pe_glob (v := .int (16384)) rfl T.gMOST_OCTETS ⟨_, rfl⟩) (nomark _))
      (pss_one (ps_raise rfl (takes_of rfl rfl rfl rfl) (pmk_own PySem.F.excBase_ValueError T.xBadLength T.gBadLength T.kBadLength (raises_own T.bxBadLength T.txBadLength) rfl)))
      pss_nil)
      (pss_cons (ps_set (i := 4) sc__read_octets.nd rfl (Or.inl rfl) (pe_op op_add (pv 3) (pv 2)))
      (pss_cons (ps_set (i := 5) sc__read_octets.nd rfl (Or.inl rfl) (pe_call (ok__behind_padding T) (hr.mono (by decide)) rfl T.g_behind_padding T.k_behind_padding T.b_behind_padding .nil (passes_call (takes_of rfl rfl rfl rfl) (fun _ _ _ _ h => h)) (pa_cons (pv 0) (pa_cons (pv 4) pa_nil))))
      (pss_one (ps_ret (pe_tup (pa_cons (pe_slice (r := rSlL K) sl_list (pv 0) (po_some (pv 3)) (po_some (pv 4))) (pa_cons (pv 5) pa_nil))))))))), ?_⟩
    unfold rdOcts at qe q
    refine ⟨_, rfl, _, rfl, a, xs, p, rfl, hS, fun e he => qe e H (by rw [he]) (Same.refl H), fun n b t H1 he s1 ht => ?_⟩
    rw [he] at qe q
    dsimp only at qe q
    have hn0 : 0 ≤ n := by
      unfold rdNum at he
      split at he
      · cases he
      · cases he
        rw [numAt4]
        have := hS.ok.get p; have := hS.ok.get (p + 1); have := hS.ok.get (p + 2); have := hS.ok.get (p + 3)
        omega
    refine ⟨t, _, rfl, ht, rfl, _, _, rfl, _, _, rfl, rfl, ?_⟩
    refine ⟨_, rfl, _, _, rfl, rfl, _, rfl, iteP (fun c => qe .len H1 (if_pos c) s1) (fun c => ?_)⟩
    have c' : ¬ 16384 < n := c
    rw [if_neg c'] at qe q
    refine ⟨_, rfl, _, rfl, _, _, rfl, rfl, ?_⟩
    have eb : (b : Int) + n = ((b + n.toNat : Nat) : Int) := by omega
    dsimp only
    rw [eb]
    refine ⟨_, rfl, _, rfl, a, xs, b + n.toNat, rfl, hS.to s1, fun e H2 he s2 => qe e H2 (by rw [he]) (s1.trans s2), fun d H2 hd s2 => ?_⟩
    rw [hd] at q
    have hdl : b + n.toNat ≤ xs.length := by
      unfold rdPad at hd
      split at hd
      · cases hd
      · omega
    refine ⟨_, rfl, _, rfl, _, rfl, _, rfl, _, rfl, a, _, rfl, (s1.trans s2).seq hS.at_, fun v hv => ?_⟩
    rw [cut_ints (by omega) hdl, show b + n.toNat - b = n.toNat by omega]
    refine ⟨_, rfl, len_line (by show 2 ≤ 100000; decide), fun t2 ht2 => ?_⟩
    have x1 : Ext U H U H2 := ⟨Same.refl U, sU.trans (s1.trans s2), s1.trans s2, fun _ h => Or.inl h⟩
    have x2 := Ext.new (o := .lst (((xs.drop b).take n.toNat).map V.int)) x1.vh hv
    exact q _ _ v t2 _ _ rfl ((x1.trans x2).trans (Ext.skip x2.vh ht2)) upd_same (SqT.of upd_same)
/-! ### _read_text -/
theorem rdNum_nn {xs : List Int} (ho : okOcts xs) {p : Nat} {n : Int} {b : Nat} (he : rdNum xs p = .ok (n, b)) : 0 ≤ n := by
  unfold rdNum at he
  split at he
  · cases he
  · cases he
    rw [numAt4]
    have := ho.get p; have := ho.get (p + 1); have := ho.get (p + 2); have := ho.get (p + 3)
    omega
theorem rdPad_le {xs : List Int} {e b : Nat} (h : rdPad xs e = .ok b) : b = e + padN e ∧ b ≤ xs.length := by
  unfold rdPad at h
  split at h
  · cases h
  · split at h
    · cases h
    · cases h
      exact ⟨rfl, by omega⟩
theorem codesS_len (cs : List Int) : (codesS cs).length = cs.length := by show (cs.map Int.toNat).toArray.size = _; rw [List.size_toArray, List.length_map]
def sp__read_text (K : PySem.W.Frag) (c : RErr → Addr) : Sp := fun vs H Q E => ∃ (a : Addr) (xs : List Int) (p : Nat), vs = [.ref a, .int (p : Int)] ∧ Src K H a xs ∧
  (∀ e H', rdText xs p = .error e → Same H H' → E (.ref (c e)) none H') ∧ (∀ z b t H', rdText xs p = .ok (z, b) → z.length < 80000 → Same H H' → SqT K H' t [.str z, .int (b : Int)] → Q (.ref t) H')
theorem sc__read_text : FnScope ["octets", "at", "length", "begin", "end", "codes", "code", "behind"] ["octets", "at"] (defScope s__read_text) := ⟨rfl, rfl, rfl, by decide +kernel, rfl, by decide +kernel, by decide +kernel⟩
theorem ok__read_text (T : Txt K mg A) : FnOk P w K mg base (L2.CX P w) 3 A.f_read_text A.d_read_text ["octets", "at"] (sp__read_text K (errOf A)) := by
  refine T.F_read_text.okX sc__read_text (fun vs H Q E h => ?_) (fun cdv Ar outer s H vs Q E hr h => ?_)
  · obtain ⟨a, xs, p, rfl, _⟩ := h
    rfl
  · obtain ⟨a, xs, p, rfl, hS, qe, q⟩ := h
    refine ⟨_, (pss_cons (ps_asg (pe_call (ok__read_number T) (hr.mono (by decide)) rfl T.g_read_number T.k_read_number T.b_read_number .nil (passes_call (takes_of rfl rfl rfl rfl) (fun _ _ _ _ h => h)) (pa_cons (pv 0) (pa_cons (pv 1) pa_nil))) (pg_tup rfl (pgs_cons (pg_name (i := 2) sc__read_text.nd rfl (Or.inl rfl)) (pgs_cons (pg_name (i := 3) sc__read_text.nd rfl (Or.inl rfl)) pgs_nil))))
      (pss_cons (ps_if (pt_not (pt_chain op_le op_le pe_int (pv 2) (pe_op op_add (pe_glob (v := .int (1000)) rfl T.gLONGEST_TEXT ⟨_, rfl⟩) pe_int)))
      (pss_one (ps_raise rfl (takes_of rfl rfl rfl rfl) (pmk_own PySem.F.excBase_ValueError T.xBadLength T.gBadLength T.kBadLength (raises_own T.bxBadLength T.txBadLength) rfl)))
      pss_nil)
      (pss_cons (ps_set (i := 4) sc__read_text.nd rfl (Or.inl rfl) (pe_op op_add (pv 3) (pv 2)))
      (pss_cons (ps_expr (pe_call (ok__demand T) (hr.mono (by decide)) rfl T.g_demand T.k_demand T.b_demand .nil (passes_call (takes_of rfl rfl rfl rfl) (fun _ _ _ _ h => h)) (pa_cons (pv 0) (pa_cons (pv 4) pa_nil))))
      (pss_cons (ps_set (i := 5) sc__read_text.nd rfl (Or.inl rfl) (pe_slice (r := rSlL K) sl_list (pv 0) (po_some (pv 3)) (po_some (pe_op op_sub (pv 4) pe_int))))
      (pss_cons (ps_if (PW.pt (pw_or (pt_cmpR op_ne (pe_ix (r := rIxL K) ix_list (pv 0) (pe_op op_sub (pv 4) pe_int) (fun _ _ => rfl)) pe_int (nomark _)) (pw_or1 (pt_not (pt_val (pe_callB (cr_all rfl) (by rfl) T.all (by decide +kernel) (pa_cons (pe_lc (own := [("code", 6)]) (g := (gName 6)) (tt := tYes) rfl sc__read_text.nd (pi_list (pv 5)) (blkOk_by (own := [("code", 6)]) (N := ["octets", "at", "length", "begin", "end", "codes", "code", "behind"]) (sc := defScope s__read_text) (by decide +kernel)) (fun _ _ _ _ _ => (pg_name (i := 6) sc__read_text.nd rfl (Or.inl rfl))) (fun _ _ _ _ _ => pts_nil) (fun _ _ _ _ _ => by exact (pe_call (ok__is_code T) (hr.mono (by decide)) rfl T.g_is_code T.k_is_code T.b_is_code .nil pass0 (pa_cons (pv 6) pa_nil)))) pa_nil)))))))
      (pss_one (ps_raise rfl (takes_of rfl rfl rfl rfl) (pmk_own PySem.F.excBase_ValueError T.xBadText T.gBadText T.kBadText (raises_own T.bxBadText T.txBadText) rfl)))
      pss_nil)
      (pss_cons (ps_set (i := 7) sc__read_text.nd rfl (Or.inl rfl) (pe_call (ok__behind_padding T) (hr.mono (by decide)) rfl T.g_behind_padding T.k_behind_padding T.b_behind_padding .nil (passes_call (takes_of rfl rfl rfl rfl) (fun _ _ _ _ h => h)) (pa_cons (pv 0) (pa_cons (pv 4) pa_nil))))
      (pss_one (ps_ret (pe_tup (pa_cons (pe_join pe_str (pe_lc (own := [("code", 6)]) (g := (gName 6)) (tt := tYes) rfl sc__read_text.nd (pi_list (pv 5)) (blkOk_by (own := [("code", 6)]) (N := ["octets", "at", "length", "begin", "end", "codes", "code", "behind"]) (sc := defScope s__read_text) (by decide +kernel)) (fun _ _ _ _ _ => (pg_name (i := 6) sc__read_text.nd rfl (Or.inl rfl))) (fun _ _ _ _ _ => pts_nil) (fun _ _ _ _ _ => by exact (pe_ix (r := rIxS) ix_str (pe_glob (v := .str " !\"#$ &'()*+,-./0123456789:;<=>?@ABCDEFGHIJKLMNOPQRSTUVWXYZ[\\]^_`abcdefghijklmnopqrstuvwxyz{|}~") rfl T.g_CHARACTERS ⟨_, rfl⟩) (pe_op op_sub (pv 6) (pe_glob (v := .int (32)) rfl T.g_FIRST_CODE ⟨_, rfl⟩)) (fun _ _ => rfl))))) (pa_cons (pv 7) pa_nil)))))))))))), ?_⟩
    unfold rdText at qe q
    refine ⟨_, rfl, _, rfl, a, xs, p, rfl, hS, fun e he => qe e H (by rw [he]) (Same.refl H), fun n b t H1 he s1 ht => ?_⟩
    rw [he] at qe q
    dsimp only at qe q
    have hn0 := rdNum_nn hS.ok he
    refine ⟨t, _, rfl, ht, rfl, _, _, rfl, _, _, rfl, rfl, ?_⟩
    have bad : ¬ (1 ≤ n ∧ n ≤ 1001) → E (.ref A.CBadLength) none H1 := fun c => qe .len H1 (if_pos c) s1
    refine ⟨_, rfl, _, _, rfl, rfl, _, rfl, iteP (fun c1 => ?_) (fun c1 => ⟨_, rfl, if_t rfl (bad fun z => c1 z.1)⟩)⟩
    refine ⟨_, _, rfl, rfl, _, _, rfl, rfl, _, rfl, iteN (fun c2 => bad fun z => c2 z.2) (fun c2 => ?_)⟩
    have c2' : n ≤ 1001 := c2
    rw [if_neg (fun z => z ⟨c1, c2'⟩)] at qe q
    refine ⟨_, rfl, _, rfl, _, _, rfl, rfl, ?_⟩
    have eb : (b : Int) + n = ((b + n.toNat : Nat) : Int) := by omega
    dsimp only
    rw [eb]
    refine ⟨_, rfl, _, rfl, a, xs, b + n.toNat, rfl, (hS.to s1).at_, fun c => qe .len H1 (if_pos c) s1, fun c3 => ?_⟩
    rw [if_neg c3] at qe q
    refine ⟨_, rfl, _, rfl, _, rfl, _, rfl, _, _, rfl, rfl, _, rfl, a, _, rfl, (hS.to s1).at_, fun v hv => ?_⟩
    have eb2 : ((b + n.toNat : Nat) : Int) - 1 = ((b + n.toNat - 1 : Nat) : Int) := by omega
    dsimp only
    rw [eb2, cut_ints (by omega) (by omega), show b + n.toNat - 1 - b = n.toNat - 1 by omega]
    generalize hcs : (xs.drop b).take (n.toNat - 1) = cs at qe q
    have hcl : cs.length ≤ 1000 := by rw [← hcs, List.length_take]; omega
    have s2 : Same H (upd H1 v (.lst (cs.map V.int))) := s1.trans (same_upd hv)
    have hv2 : (upd H1 v (.lst (cs.map V.int))) v = some (.lst (cs.map V.int)) := upd_same
    generalize upd H1 v (.lst (cs.map V.int)) = H2 at s2 hv2
    have bad2 : (xs.getD (b + n.toNat - 1) 0 ≠ 0 ∨ cs.all codeOk = false) → ∀ H', Same H H' → E (.ref A.CBadText) none H' := fun c H' s => qe .text H' (if_pos c) s
    refine ⟨_, rfl, _, rfl, _, _, rfl, rfl, a, _, _, .int (xs.getD (b + n.toNat - 1) 0), rfl, rfl, s2.seq hS.at_, at_of (j := b + n.toNat - 1) (by omega) (getD_at (by omega)), rfl, _, rfl, iteNe (fun c => if_t rfl (bad2 (Or.inl c) H2 s2)) (fun c4 => ?_)⟩
    refine ⟨_, rfl, v, rfl, ⟨_, SqL.of hv2⟩, fun D hD => ?_⟩
    refine lc_dp (walk_list (K := K) (a := v) (xs := cs.map V.int)) (K := K) (V0 := H2) (H0 := H2) (fun i => (cs[i]?).map fun x => PyData.bool (codeOk x)) [some (.ref a), some (.int (p : Int)), some (.int n), some (.int (b : Int)), some (.int ((b + n.toNat : Nat) : Int)), some (.ref v), none, none] rfl (Same.refl _) hD (by rw [List.length_map]; omega) (fun H' s => s.seq (SqL.of hv2)) (fun i x H H' y => y.1) ?_ ?_
    · rintro i x U H3 hi xx ⟨_, hx⟩ Qy Qn hy _
      rw [List.getElem?_map] at hx
      obtain ⟨z, hz, rfl⟩ := Option.map_eq_some_iff.mp hx
      exact ⟨rfl, _, rfl, z, rfl, hy _ _ _ _ (by rw [hz]; rfl) (Ext.refl xx.vh) (.bl _)⟩
    rintro U H3 _ xx _ _ dl
    rw [List.length_map, show fm (fun i => (cs[i]?).map fun x => PyData.bool (codeOk x)) cs.length = (cs.map codeOk).map PyData.bool from by
      rw [List.map_map]; exact fm_list _ _ _ rfl _ fun i x hx => by rw [hx]; rfl] at dl
    refine ⟨D, _, rfl, xx.vh.seq (dp_boolsL dl), ?_⟩
    have s3 := s2.trans xx.hh
    have hv3 := xx.hh _ _ hv2
    rw [List.all_map, show (id ∘ codeOk) = codeOk from rfl]
    cases hall : cs.all codeOk with
    | false => exact ⟨_, rfl, bad2 (Or.inr hall) H3 s3⟩
    | true =>
      rw [if_neg (fun z => z.elim (fun z => z c4) (fun z => by rw [hall] at z; cases z))] at qe q
      refine ⟨_, rfl, ?_⟩
      refine ⟨_, rfl, _, rfl, a, xs, b + n.toNat, rfl, hS.to s3, fun e H4 he s4 => qe e H4 (by rw [he]) (s3.trans s4), fun d H4 hd s4 => ?_⟩
      rw [hd] at q
      have hv4 := s4 _ _ hv3
      have s4' := s3.trans s4
      refine ⟨⟨_, rfl⟩, _, rfl, v, rfl, ⟨_, SqL.of hv4⟩, fun D2 hD2 => ?_⟩
      refine lc_dp (walk_list (K := K) (a := v) (xs := cs.map V.int)) (K := K) (V0 := H4) (H0 := H4) (fun i => (cs[i]?).map fun x => PyData.str ⟨#[x.toNat]⟩) [some (.ref a), some (.int (p : Int)), some (.int n), some (.int (b : Int)), some (.int ((b + n.toNat : Nat) : Int)), some (.ref v), none, some (.int (d : Int))] rfl (Same.refl _) hD2 (by rw [List.length_map]; omega) (fun H' s => s.seq (SqL.of hv4)) (fun i x H H' y => y.1) ?_ ?_
      · rintro i x U5 H5 hi xx5 ⟨_, hx⟩ Qy Qn hy _
        rw [List.getElem?_map] at hx
        obtain ⟨z, hz, rfl⟩ := Option.map_eq_some_iff.mp hx
        obtain ⟨k0, kc⟩ := chars_at (List.all_eq_true.mp hall z (List.mem_of_getElem? hz))
        exact ⟨rfl, _, rfl, _, _, rfl, rfl, _, _, z.toNat, rfl, rfl, by decide +kernel, at_of' (Int.toNat_of_nonneg k0).symm kc, hy _ _ _ _ (by rw [hz]; rfl) (Ext.refl xx5.vh) (.str _)⟩
      rintro U5 H5 ys xx5 hDU dl5 _
      rw [List.length_map, show fm (fun i => (cs[i]?).map fun x => PyData.str ⟨#[x.toNat]⟩) cs.length = ((cs.map Int.toNat).map fun c => (⟨#[c]⟩ : Str)).map PyData.str from by
        rw [List.map_map, List.map_map]; exact fm_list _ _ _ rfl _ fun i x hx => by rw [hx]; rfl] at dl5
      have e5 := dp_strsV dl5
      subst e5
      refine ⟨⟨#[]⟩, D2, (cs.map Int.toNat).map fun c => (⟨#[c]⟩ : Str), by decide +kernel, rfl, .inl (SqL.of (xx5.vh _ _ hDU)), ?_, ?_⟩
      · have e : ∀ cs : List Nat, ((cs.map fun c => (⟨#[c]⟩ : Str)).map (·.length)).sum = cs.length := by
          intro cs
          induction cs with
          | nil => rfl
          | cons c cs ih => rw [List.map_cons, List.map_cons, List.sum_cons, ih]; show 1 + cs.length = cs.length + 1; omega
        rw [e, List.length_map]; show cs.length + _ * 0 ≤ _; omega
      · rw [join_singles]
        refine ⟨_, rfl, len_line (by show 2 ≤ 100000; decide), fun t5 ht5 => ?_⟩
        exact q (codesS cs) d t5 _ rfl (by rw [codesS_len]; omega) (s4'.trans (xx5.hh.trans (same_upd ht5))) (SqT.of upd_same)
/-! ### _read, read_arguments -/
def sp__read (K : PySem.W.Frag) (c : RErr → Addr) : Sp := fun vs H Q E => ∃ (k : Str) (a : Addr) (xs : List Int) (p : Nat) (U : Hp), vs = [.str k, .ref a, .int (p : Int)] ∧ Src K H a xs ∧ Same U H ∧
  (∀ e H', rdKind k xs p = .error e → Same H H' → E (.ref (c e)) none H') ∧
  (∀ x b v t U' H', rdKind k xs p = .ok (x, b) → Ext U H U' H' → ArgAt K U' v x → SqT K H' t [v, .int (b : Int)] → Q (.ref t) H')
theorem sc__read : FnScope ["kind", "octets", "at", "text", "behind", "number"] ["kind", "octets", "at"] (defScope s__read) := ⟨rfl, rfl, rfl, by decide +kernel, rfl, by decide +kernel, by decide +kernel⟩
theorem ok__read (T : Txt K mg A) : FnOk P w K mg base (L2.CX P w) 4 A.f_read A.d_read ["kind", "octets", "at"] (sp__read K (errOf A)) := by
  refine T.F_read.okX sc__read (fun vs H Q E h => ?_) (fun cdv Ar outer s H vs Q E hr h => ?_)
  · obtain ⟨k, a, xs, p, U, rfl, _⟩ := h
    rfl
  · obtain ⟨k, a, xs, p, U, rfl, hS, sU, qe, q⟩ := h
    refine ⟨_, (pss_cons (ps_if (pt_cmpR op_eq (pv 0) pe_str (nomark _))
      (pss_one (ps_ret (pe_call (ok__read_text T) (hr.mono (by decide)) rfl T.g_read_text T.k_read_text T.b_read_text .nil (passes_call (takes_of rfl rfl rfl rfl) (fun _ _ _ _ h => h)) (pa_cons (pv 1) (pa_cons (pv 2) pa_nil)))))
      pss_nil)
      (pss_cons (ps_if (pt_cmpR op_eq (pv 0) pe_str (nomark _))
      (pss_one (ps_ret (pe_call (ok__read_octets T) (hr.mono (by decide)) rfl T.g_read_octets T.k_read_octets T.b_read_octets .nil (passes_call (takes_of rfl rfl rfl rfl) (fun _ _ _ _ h => h)) (pa_cons (pv 1) (pa_cons (pv 2) pa_nil)))))
      pss_nil)
      (pss_cons (ps_if (pt_cmpR op_eq (pv 0) pe_str (nomark _))
      (pss_cons (ps_asg (pe_call (ok__read_text T) (hr.mono (by decide)) rfl T.g_read_text T.k_read_text T.b_read_text .nil (passes_call (takes_of rfl rfl rfl rfl) (fun _ _ _ _ h => h)) (pa_cons (pv 1) (pa_cons (pv 2) pa_nil))) (pg_tup rfl (pgs_cons (pg_name (i := 3) sc__read.nd rfl (Or.inl rfl)) (pgs_cons (pg_name (i := 4) sc__read.nd rfl (Or.inl rfl)) pgs_nil))))
      (pss_cons (ps_asg (pe_call (ok__read_named T) (hr.mono (by decide)) rfl T.g_read_named T.k_read_named T.b_read_named .nil (passes_call (takes_of rfl rfl rfl rfl) (fun _ _ _ _ h => h)) (pa_cons (pv 1) (pa_cons (pv 4) pa_nil))) (pg_tup rfl (pgs_cons (pg_name (i := 5) sc__read.nd rfl (Or.inl rfl)) (pgs_cons (pg_name (i := 4) sc__read.nd rfl (Or.inl rfl)) pgs_nil))))
      (pss_one (ps_ret (pe_tup (pa_cons (pe_tup (pa_cons (pv 3) (pa_cons (pv 5) pa_nil))) (pa_cons (pv 4) pa_nil)))))))
      pss_nil)
      (C8.pss_cut (ps_if (PW.pt (pw_or (pt_cmpR op_eq (pv 0) pe_str (nomark _)) (pw_or1 (pt_cmpR op_eq (pv 0) pe_str (nomark _)))))
      (pss_one (ps_ret (pe_call (ok__read_named T) (hr.mono (by decide)) rfl T.g_read_named T.k_read_named T.b_read_named .nil (passes_call (takes_of rfl rfl rfl rfl) (fun _ _ _ _ h => h)) (pa_cons (pv 1) (pa_cons (pv 2) pa_nil)))))
      pss_nil)
      (pss_cons (ps_asg (pe_call (ok__read_number T) (hr.mono (by decide)) rfl T.g_read_number T.k_read_number T.b_read_number .nil (passes_call (takes_of rfl rfl rfl rfl) (fun _ _ _ _ h => h)) (pa_cons (pv 1) (pa_cons (pv 2) pa_nil))) (pg_tup rfl (pgs_cons (pg_name (i := 5) sc__read.nd rfl (Or.inl rfl)) (pgs_cons (pg_name (i := 4) sc__read.nd rfl (Or.inl rfl)) pgs_nil))))
      (C8.pss_cut (ps_if (PW.pt (pw_and (pt_cmpR op_eq (pv 0) pe_str (nomark _)) (pw_and1 (pt_cmpR op_gt (pv 5) (pe_glob (v := .int (2147483647)) rfl T.gGREATEST_INT ⟨_, rfl⟩) (nomark _)))))
      (pss_one (ps_aug (i := 5) sc__read.nd rfl (Or.inl rfl) (pe_op op_pow pe_int pe_int) ip_sub))
      pss_nil)
      (pss_one (ps_ret (pe_tup (pa_cons (pv 5) (pa_cons (pv 4) pa_nil))))))))))), ?_⟩
    unfold rdKind at qe q
    have xk : ∀ {H1 : Hp}, Same H H1 → Ext U H U H1 := fun s => ⟨Same.refl U, sU.trans s, s, fun _ h => Or.inl h⟩
    refine ⟨_, rfl, rfl, _, rfl, if_b (fun c => ?_) (fun c => ?_)⟩
    · have e : k = "text" := V.str.inj (of_decide_eq_true c)
      rw [if_pos e] at qe q
      refine ⟨_, rfl, _, rfl, a, xs, p, rfl, hS, fun e H' he s => qe e H' (by rw [he]) s, fun z b t H' he hz s ht => ?_⟩
      exact q (.txt z) b (.str z) t U H' (by rw [he]) (xk s) ⟨rfl, hz⟩ ht
    have n1 : ¬ k = "text" := fun z => by rw [z, decide_eq_true rfl] at c; cases c
    rw [if_neg n1] at qe q
    refine ⟨_, rfl, rfl, _, rfl, if_b (fun c => ?_) (fun c => ?_)⟩
    · have e : k = "octets" := V.str.inj (of_decide_eq_true c)
      rw [if_pos e] at qe q
      refine ⟨_, rfl, _, rfl, a, xs, p, U, rfl, hS, sU, fun e H' he s => qe e H' (by rw [he]) s, fun ys b v t U' H' he hx hv ht => ?_⟩
      refine q (.oct ys) b (.ref v) t U' H' (by rw [he]) hx ⟨v, rfl, hv, ?_⟩ ht
      unfold rdOcts at he
      have := hS.len
      split at he
      · cases he
      · split at he
        · cases he
        · split at he
          · cases he
          · cases he
            rw [List.length_take, List.length_drop]; omega
    have n2 : ¬ k = "octets" := fun z => by rw [z, decide_eq_true rfl] at c; cases c
    rw [if_neg n2] at qe q
    refine ⟨_, rfl, rfl, _, rfl, if_b (fun c => ?_) (fun c => ?_)⟩
    · have e : k = "bound" := V.str.inj (of_decide_eq_true c)
      rw [if_pos e] at qe q
      unfold rdBound at qe q
      refine ⟨_, rfl, _, rfl, a, xs, p, rfl, hS, fun e H' he s => qe e H' (by rw [he]) s, fun z b t H1 he hz s1 ht => ?_⟩
      rw [he] at qe q
      dsimp only at qe q
      refine ⟨t, _, rfl, ht, rfl, _, _, rfl, _, _, rfl, rfl, ?_⟩
      refine ⟨_, rfl, _, rfl, a, xs, b, rfl, hS.to s1, fun e H' he s => qe e H' (by rw [he]) (s1.trans s), fun n d t2 H2 he2 s2 ht2 => ?_⟩
      rw [he2] at q
      refine ⟨t2, _, rfl, ht2, rfl, _, _, rfl, _, _, rfl, rfl, ?_⟩
      refine ⟨_, rfl, _, rfl, len_line (by show 2 ≤ 100000; decide), fun v hv => ?_⟩
      refine ⟨_, rfl, len_line (by show 2 ≤ 100000; decide), fun t3 ht3 => ?_⟩
      have x1 := (xk (s1.trans s2)).trans (Ext.new (o := .tup [.str z, .int n]) (xk (s1.trans s2)).vh hv)
      exact q (.bnd z n) d (.ref v) t3 _ _ rfl (x1.trans (Ext.skip x1.vh ht3)) ⟨v, rfl, SqT.of upd_same, hz⟩ (SqT.of upd_same)
    have n3 : ¬ k = "bound" := fun z => by rw [z, decide_eq_true rfl] at c; cases c
    rw [if_neg n3] at qe q
    refine ⟨fun σ' H' => σ' = [some (.str k), some (.ref a), some (.int (p : Int)), none, none, none] ∧ H' = H ∧ ¬ (k = "object" ∨ k = "new"), ?_, ?_⟩
    · have both : (k = "object" ∨ k = "new") → ∀ (Q' : VK), Q' = Q → sp__read_named K (errOf A) [.ref a, .int (p : Int)] H Q' E := fun e Q' eq => by
        subst eq
        rw [if_pos e] at qe q
        refine ⟨a, xs, p, rfl, hS, fun e H' he s => qe e H' (by rw [he]) s, fun n b t H' he s ht => ?_⟩
        exact q (.num n) b (.int n) t U H' (by rw [he]) (xk s) rfl ht
      refine ⟨_, rfl, rfl, _, rfl, if_b (fun c => ?_) (fun c => ?_)⟩
      · exact if_t rfl ⟨_, rfl, _, rfl, both (Or.inl (V.str.inj (of_decide_eq_true c))) _ rfl⟩
      refine ⟨_, rfl, rfl, _, rfl, if_b (fun c2 => ?_) (fun c2 => ?_)⟩
      · exact ⟨_, rfl, _, rfl, both (Or.inr (V.str.inj (of_decide_eq_true c2))) _ rfl⟩
      · exact ⟨rfl, rfl, fun z => by
          rcases z with z | z
          · rw [z, decide_eq_true rfl] at c; cases c
          · rw [z, decide_eq_true rfl] at c2; cases c2⟩
    rintro σ' H' ⟨rfl, e, n4⟩
    obtain rfl : H = H' := e.symm
    rw [if_neg n4] at qe q
    refine ⟨_, rfl, _, rfl, a, xs, p, rfl, hS, fun e he => qe e H (by rw [he]) (Same.refl H), fun n b t H1 he s1 ht => ?_⟩
    rw [he] at qe q
    dsimp only at qe q
    refine ⟨t, _, rfl, ht, rfl, _, _, rfl, _, _, rfl, rfl, ?_⟩
    refine ⟨fun σ' H' => σ' = [some (.str k), some (.ref a), some (.int (p : Int)), none, some (.int (b : Int)), some (.int (if k = "int" ∧ 2147483647 < n then n - 4294967296 else n))] ∧ H' = H1, ?_, ?_⟩
    · refine ⟨_, rfl, rfl, _, rfl, if_b (fun c => ?_) (fun c => if_f rfl ⟨?_, rfl⟩)⟩
      · have e : k = "int" := V.str.inj (of_decide_eq_true c)
        refine ⟨_, rfl, _, _, rfl, rfl, _, rfl, iteP (fun c2 => ?_) (fun c2 => ⟨?_, rfl⟩)⟩
        · have c2' : 2147483647 < n := c2
          rw [if_pos ⟨e, c2'⟩]
          refine ⟨_, rfl, _, _, rfl, rfl, ⟨by decide, by decide, by decide⟩, _, _, rfl, rfl, ?_, rfl⟩
          rw [show (2 : Int) ^ (32 : Int).toNat = 4294967296 by decide +kernel]; rfl
        · have c2' : ¬ 2147483647 < n := c2
          rw [if_neg (fun z => c2' z.2)]; rfl
      · rw [if_neg (fun z => by rw [z.1, decide_eq_true rfl] at c; cases c)]; rfl
    rintro σ' H' ⟨rfl, e⟩
    obtain rfl : H1 = H' := e.symm
    exact ⟨_, rfl, _, rfl, len_line (by show 2 ≤ 100000; decide), fun t3 ht3 => q (.num _) b (.int _) t3 U _ rfl (xk (s1.trans (same_upd ht3))) rfl (SqT.of upd_same)⟩
/-- read_arguments: the kinds from the i-th on -/
def rdAll (xs : List Int) : List Str → Nat → Except RErr (List AV × Nat)
  | [], p => .ok ([], p)
  | k :: ks, p => match rdKind k xs p with
    | .error e => .error e
    | .ok (x, b) => match rdAll xs ks b with
      | .error e => .error e
      | .ok (r, c) => .ok (x :: r, c)
def rdArgs (xs : List Int) (ks : List Str) : Except RErr (List AV) := match rdAll xs ks 0 with
  | .error e => .error e
  | .ok (r, c) => if c < xs.length then .error .len else .ok r
/-- the values of a list, one by one -/
def ValsAt (K : PySem.W.Frag) (H : Hp) (vs : List V) (rs : List AV) : Prop := vs.length = rs.length ∧ ∀ (i : Nat) (v : V), vs[i]? = some v → ∃ x, rs[i]? = some x ∧ ArgAt K H v x
theorem ValsAt.nil {K : PySem.W.Frag} {H : Hp} : ValsAt K H [] [] := ⟨rfl, fun i x hx => by cases i <;> cases hx⟩
theorem ValsAt.to {K : PySem.W.Frag} {H H' : Hp} {vs : List V} {rs : List AV} (h : ValsAt K H vs rs) (s : Same H H') : ValsAt K H' vs rs := by
  refine ⟨h.1, fun i v hv => ?_⟩
  obtain ⟨x, e1, e2⟩ := h.2 i v hv
  exact ⟨x, e1, e2.to s⟩
theorem ValsAt.push {K : PySem.W.Frag} {H : Hp} {vs : List V} {rs : List AV} (h : ValsAt K H vs rs) {v : V} {x : AV} (e : ArgAt K H v x) : ValsAt K H (vs ++ [v]) (rs ++ [x]) := by
  refine ⟨by rw [List.length_append, List.length_append, h.1]; rfl, fun i y hy => ?_⟩
  by_cases c : i < vs.length
  · rw [List.getElem?_append_left c] at hy
    obtain ⟨z, a1, a2⟩ := h.2 i y hy
    exact ⟨z, by rw [List.getElem?_append_left (by rw [← h.1]; exact c)]; exact a1, a2⟩
  · rw [List.getElem?_append_right (by omega)] at hy
    have hi : i - vs.length = 0 := by
      cases e : i - vs.length with
      | zero => rfl
      | succ n => rw [e] at hy; cases hy
    rw [hi] at hy
    refine ⟨x, ?_, by rw [← Option.some.inj hy]; exact e⟩
    rw [List.getElem?_append_right (by rw [← h.1]; omega), ← h.1, hi]; rfl
def sp_read_arguments (K : PySem.W.Frag) (c : RErr → Addr) : Sp := fun vs H Q E => ∃ (a b : Addr) (ks : List Str) (xs : List Int), vs = [.ref a, .ref b] ∧ SqL K H a (ks.map V.str) ∧ ks.length < 60000 ∧ Src K H b xs ∧
  (∀ e H', rdArgs xs ks = .error e → Same H H' → E (.ref (c e)) none H') ∧
  (∀ rs us p H', rdArgs xs ks = .ok rs → H p = none → Same H H' → H' p = some (.lst us) → ValsAt K H' us rs → Q (.ref p) H')
theorem sc_read_arguments : FnScope ["kinds", "octets", "values", "at", "kind", "value"] ["kinds", "octets"] (defScope s_read_arguments) := ⟨rfl, rfl, rfl, by decide +kernel, rfl, by decide +kernel, by decide +kernel⟩
theorem ok_read_arguments (T : Txt K mg A) : FnOk P w K mg base (L2.CX P w) 5 A.fread_arguments A.dread_arguments ["kinds", "octets"] (sp_read_arguments K (errOf A)) := by
  refine T.Fread_arguments.okX sc_read_arguments (fun vs H Q E h => ?_) (fun cdv Ar outer s H vs Q E hr h => ?_)
  · obtain ⟨a, b, ks, xs, rfl, _⟩ := h
    rfl
  · obtain ⟨a, b, ks, xs, rfl, hK, hkl, hS, qe, q⟩ := h
    refine ⟨_, (pss_cons (ps_set (i := 2) sc_read_arguments.nd rfl (Or.inl rfl) (pe_lst pa_nil))
      (pss_cons (ps_set (i := 3) sc_read_arguments.nd rfl (Or.inl rfl) pe_int)
      (pss_cons (ps_for (passes_of rfl) rfl (pi_list (pv 0)) (pg_name (i := 4) sc_read_arguments.nd rfl (Or.inl rfl))
      (pss_cons (ps_asg (pe_call (ok__read T) (hr.mono (by decide)) rfl T.g_read T.k_read T.b_read .nil (passes_call (takes_of rfl rfl rfl rfl) (fun _ _ _ _ h => h)) (pa_cons (pv 4) (pa_cons (pv 1) (pa_cons (pv 3) pa_nil)))) (pg_tup rfl (pgs_cons (pg_name (i := 5) sc_read_arguments.nd rfl (Or.inl rfl)) (pgs_cons (pg_name (i := 3) sc_read_arguments.nd rfl (Or.inl rfl)) pgs_nil))))
      (pss_one (ps_expr (pe_bm PySem.F.plainAttrs_list PySem.F.slot_list_append PySem.F.type_list_append mt_append (pv 2) (pa_cons (pv 5) pa_nil))))))
      (pss_cons (ps_if (pt_cmpR op_lt (pv 3) (pe_callB call_len_seq (by rfl) T.len PySem.boot_len (pa_cons (pv 1) pa_nil)) (nomark _))
      (pss_one (ps_raise rfl (takes_of rfl rfl rfl rfl) (pmk_own PySem.F.excBase_ValueError T.xBadLength T.gBadLength T.kBadLength (raises_own T.bxBadLength T.txBadLength) rfl)))
      pss_nil)
      (pss_one (ps_ret (pv 2))))))), ?_⟩
    unfold rdArgs at qe q
    refine ⟨len_line (by show 0 ≤ 100000; decide), fun p hp => ?_⟩
    have sp := same_upd (o := .lst []) hp
    refine ⟨_, rfl, a, rfl, ⟨_, sp.seq hK⟩, for_list (K := K) (a := a) (xs := ks.map V.str) (fun i σ H' => ∃ (pl : Nat) (v4 v5 : Option V) (U : Hp) (us : List V) (rs : List AV), σ = [some (.ref a), some (.ref b), some (.ref p), some (.int (pl : Int)), v4, v5] ∧ Ext H H U H' ∧ U p = none ∧ H' p = some (.lst us) ∧ ValsAt K U us rs ∧ us.length = i ∧
        rdAll xs ks 0 = (match rdAll xs (ks.drop i) pl with | .error e => .error e | .ok (r, c) => .ok (rs ++ r, c)))
      ⟨0, none, none, H, [], [], rfl, Ext.skip (Same.refl H) hp, hp, upd_same, ValsAt.nil, rfl, ?_⟩ (fun i σ H' _ ⟨_, _, _, _, _, _, _, x, _⟩ => x.hh.seq hK) ?_ ?_⟩
    · rw [List.drop_zero]
      cases rdAll xs ks 0 with
      | error e => rfl
      | ok r => rfl
    · rintro i x σ H1 hi ⟨pl, v4, v5, U, us, rs, rfl, x1, hU, hp1, hv, hl, hR⟩
      rw [List.getElem?_map] at hi
      obtain ⟨k, hk, rfl⟩ := Option.map_eq_some_iff.mp hi
      have hd : ks.drop i = k :: ks.drop (i + 1) := by
        have hil := (List.getElem?_eq_some_iff.mp hk).1
        rw [List.drop_eq_getElem_cons hil, (List.getElem?_eq_some_iff.mp hk).2]
      rw [hd] at hR
      refine ⟨_, rfl, _, rfl, _, rfl, k, b, xs, pl, U, rfl, hS.to x1.hh, x1.vh, fun e H2 he s2 => ?_, fun y c v t U2 H2 he x2 hy ht => ?_⟩
      · refine qe e H2 ?_ (x1.hh.trans s2)
        rw [hR]
        show (match (match rdAll xs (k :: ks.drop (i + 1)) pl with | .error e => .error e | .ok (r, c) => .ok (rs ++ r, c) : Except RErr (List AV × Nat)) with | .error e => .error e | .ok (r, c) => if c < xs.length then .error .len else .ok r : Except RErr (List AV)) = _
        unfold rdAll
        rw [he]
      · refine ⟨t, _, rfl, ht, rfl, _, _, rfl, _, _, rfl, rfl, ?_⟩
        have hp2 := x2.hh _ _ hp1
        have hU2 : U2 p = none := x2.keepOut hU (by rw [hp1]; exact fun z => by cases z)
        have hil := (List.getElem?_eq_some_iff.mp hk).1
        refine ⟨_, rfl, .inl ⟨rfl, _, SqL.of hp2⟩, _, rfl, p, us, v, rfl, rfl, hp2, lt_line (by omega), ?_⟩
        refine ⟨c, _, _, U2, us ++ [v], rs ++ [y], rfl, (x1.trans x2).poke hp hU2, hU2, upd_same, (hv.to x2.vv).push hy, by rw [List.length_append, hl]; rfl, ?_⟩
        rw [hR]
        conv => lhs; unfold rdAll
        rw [he]
        dsimp only
        cases rdAll xs (ks.drop (i + 1)) c with
        | error e => rfl
        | ok r => show Except.ok (rs ++ (y :: r.1), r.2) = Except.ok (rs ++ [y] ++ r.1, r.2); rw [List.append_assoc]; rfl
    · rintro σ H1 ⟨pl, v4, v5, U, us, rs, rfl, x1, hU, hp1, hv, hl, hR⟩
      rw [List.length_map, List.drop_length] at hR
      have hR' : rdAll xs ks 0 = .ok (rs, pl) := by rw [hR]; show Except.ok (rs ++ [], pl) = _; rw [List.append_nil]
      rw [hR'] at qe q
      dsimp only at qe q
      refine ⟨_, rfl, _, rfl, b, _, rfl, .inl (x1.hh.seq hS.at_), _, _, rfl, rfl, _, rfl, ?_⟩
      rw [List.length_map]
      refine iteP (fun c => qe .len H1 (if_pos (by omega)) x1.hh) (fun c => ?_)
      exact ⟨_, rfl, q rs us p H1 (if_neg (by omega)) hp x1.hh hp1 (hv.to x1.vh)⟩
/-! ### what the writer wrote, the reader reads: pure -/
def AtO (xs : List Int) (p : Nat) (l : List Int) : Prop := ∃ pre rest : List Int, xs = pre ++ (l ++ rest) ∧ pre.length = p
theorem AtO.left {xs l1 l2 : List Int} {p : Nat} (h : AtO xs p (l1 ++ l2)) : AtO xs p l1 := by
  obtain ⟨pre, rest, e, hp⟩ := h
  exact ⟨pre, l2 ++ rest, by rw [e, List.append_assoc], hp⟩
theorem AtO.right {xs l1 l2 : List Int} {p : Nat} (h : AtO xs p (l1 ++ l2)) : AtO xs (p + l1.length) l2 := by
  obtain ⟨pre, rest, e, hp⟩ := h
  exact ⟨pre ++ l1, rest, by rw [e, List.append_assoc, List.append_assoc], by rw [List.length_append, hp]⟩
theorem AtO.len {xs l : List Int} {p : Nat} (h : AtO xs p l) : p + l.length ≤ xs.length := by
  obtain ⟨pre, rest, e, hp⟩ := h
  rw [e, List.length_append, List.length_append]; omega
theorem AtO.take {xs l : List Int} {p : Nat} (h : AtO xs p l) : (xs.drop p).take l.length = l := by
  obtain ⟨pre, rest, rfl, rfl⟩ := h
  rw [List.drop_left, List.take_left]
theorem AtO.get {xs l : List Int} {p : Nat} (h : AtO xs p l) {i : Nat} (hi : i < l.length) : xs.getD (p + i) 0 = l.getD i 0 := by
  obtain ⟨pre, rest, rfl, rfl⟩ := h
  rw [List.getD_eq_getElem?_getD, List.getD_eq_getElem?_getD, List.getElem?_append_right (by omega), show pre.length + i - pre.length = i by omega, List.getElem?_append_left hi]
theorem octs4r (n : Int) : octs n 4 = [n / 1 % 256, n / 256 % 256, n / 65536 % 256, n / 16777216 % 256] := rfl
theorem rdNum_at {xs : List Int} {p : Nat} {n : Int} (h : AtO xs p (octs n 4)) (h0 : 0 ≤ n) (h1 : n < 4294967296) : rdNum xs p = .ok (n, p + 4) := by
  have hl := h.len
  rw [octs_len] at hl
  unfold rdNum
  rw [if_neg (by omega), numAt4]
  have e0 : xs.getD p 0 = n / 1 % 256 := h.get (i := 0) (by rw [octs_len]; decide)
  have e1 : xs.getD (p + 1) 0 = n / 256 % 256 := h.get (i := 1) (by rw [octs_len]; decide)
  have e2 : xs.getD (p + 2) 0 = n / 65536 % 256 := h.get (i := 2) (by rw [octs_len]; decide)
  have e3 : xs.getD (p + 3) 0 = n / 16777216 % 256 := h.get (i := 3) (by rw [octs_len]; decide)
  rw [e0, e1, e2, e3]
  congr 2
  omega
theorem rdNamed_at {xs : List Int} {p : Nat} {n : Int} (h : AtO xs p (octs n 4)) (h0 : 1 ≤ n) (h1 : n < 4294967296) : rdNamed xs p = .ok (n, p + 4) := by
  unfold rdNamed
  rw [rdNum_at h (by omega) h1]
  exact if_neg (by omega)
theorem padN_mod {a b : Nat} (h : a % 4 = b % 4) : padN a = padN b := by unfold padN; omega
theorem rdPad_at {xs : List Int} {e : Nat} (h : AtO xs e (List.replicate (padN e) 0)) : rdPad xs e = .ok (e + padN e) := by
  have hl := h.len
  have ht := h.take
  rw [List.length_replicate] at hl ht
  unfold rdPad
  rw [if_neg (by omega), ht, if_neg]
  rw [List.any_replicate]
  simp
theorem codesS_of (s : Str) : codesS (codesOf s) = s := by
  unfold codesS codesOf
  rw [List.map_map, show (Int.toNat ∘ fun c : Nat => (c : Int)) = id from by funext c; rfl, List.map_id]
theorem pad_mod (l : List Int) : (pad l).length % 4 = 0 := by rw [pad_len]; unfold padN; omega
theorem rdText_at {xs : List Int} {p : Nat} {s : Str} (h : AtO xs p (textOcts s)) (hp : p % 4 = 0) (ok : isText s = true) : rdText xs p = .ok (s, p + (textOcts s).length) := by
  unfold isText at ok
  rw [Bool.and_eq_true] at ok
  have hl := of_decide_eq_true ok.1
  have hall : (codesOf s).all codeOk = true := by
    unfold codesOf; rw [List.all_map]; exact ok.2
  unfold textOcts pad at h
  have a1 := h.left.left.left
  have a2 := h.left.left.right
  have a3 := h.left.right
  have a4 := h.right
  rw [octs_len] at a2
  have hcl := codesOf_len s
  rw [List.length_append, octs_len, hcl] at a3
  rw [List.length_append, List.length_append, octs_len, hcl] at a4
  have lin : ([(0 : Int)] : List Int).length = 1 := rfl
  rw [lin] at a4
  have ht := a2.take
  rw [hcl] at ht
  have hz := a3.get (i := 0) (by decide)
  have hxl := a4.len
  unfold rdText
  rw [rdNum_at a1 (by omega) (by omega)]
  dsimp only
  rw [show ((s.length : Int) + 1).toNat = s.length + 1 by omega]
  rw [if_neg (fun z => z ⟨by omega, by omega⟩), if_neg (by omega)]
  rw [show s.length + 1 - 1 = s.length by omega, ht, show p + 4 + (s.length + 1) - 1 = p + (4 + s.length) + 0 by omega, hz]
  rw [if_neg (fun z => z.elim (fun z => z rfl) (fun z => by rw [hall] at z; cases z))]
  rw [show p + 4 + (s.length + 1) = p + (4 + s.length + 1) by omega]
  rw [padN_mod (show (4 + s.length + 1) % 4 = (p + (4 + s.length + 1)) % 4 by omega)] at a4
  rw [rdPad_at a4]
  dsimp only
  rw [codesS_of]
  congr 2
  unfold textOcts
  rw [pad_len, List.length_append, List.length_append, octs_len, hcl, lin, padN_mod (show (p + (4 + s.length + 1)) % 4 = (4 + s.length + 1) % 4 by omega)]
  omega
theorem rdOcts_at {xs : List Int} {p : Nat} {ys : List Int} (h : AtO xs p (pad (octs ys.length 4 ++ ys))) (hp : p % 4 = 0) (ok : octsOk ys = true) : rdOcts xs p = .ok (ys, p + (pad (octs ys.length 4 ++ ys)).length) := by
  unfold octsOk at ok
  rw [Bool.and_eq_true] at ok
  have hl := of_decide_eq_true ok.1
  unfold pad at h
  have a1 := h.left.left
  have a2 := h.left.right
  have a4 := h.right
  rw [octs_len] at a2
  rw [List.length_append, octs_len] at a4
  have ht := a2.take
  unfold rdOcts
  rw [rdNum_at a1 (by omega) (by omega)]
  dsimp only
  rw [if_neg (by omega), show ((ys.length : Int)).toNat = ys.length by omega, ht]
  rw [show p + 4 + ys.length = p + (4 + ys.length) by omega]
  rw [padN_mod (show (4 + ys.length) % 4 = (p + (4 + ys.length)) % 4 by omega)] at a4
  rw [rdPad_at a4]
  dsimp only
  congr 2
  rw [pad_len, List.length_append, octs_len, padN_mod (show (p + (4 + ys.length)) % 4 = (4 + ys.length) % 4 by omega)]
  omega
theorem spec_mod {k : Str} {x : AV} {ok : Bool} {os : List Int} (h : ArgSpec k x ok os) : os.length % 4 = 0 := by
  cases h with
  | num h => rw [octs_len]
  | txt => exact pad_mod _
  | oct => exact pad_mod _
  | bnd =>
    rw [List.length_append, octs_len]
    rename_i s n
    have : (textOcts s).length % 4 = 0 := pad_mod _
    omega
theorem rdKind_at {xs : List Int} {p : Nat} {k : Str} {x : AV} {os : List Int} (hs : ArgSpec k x true os) (h : AtO xs p os) (hp : p % 4 = 0) : rdKind k xs p = .ok (x, p + os.length) := by
  generalize hb : true = ok at hs
  cases hs with
  | num hn =>
    rename_i lo hi i
    have hi := of_decide_eq_true hb.symm
    rw [octs_len]
    unfold rdKind
    cases hn with
    | uint =>
      rw [if_neg (by decide +kernel), if_neg (by decide +kernel), if_neg (by decide +kernel), if_neg (by decide +kernel), rdNum_at h (by omega) (by omega)]
      dsimp only
      rw [if_neg (fun z => absurd z.1 (by decide +kernel)), Int.emod_eq_of_lt (by omega) (by omega)]
    | maybe =>
      rw [if_neg (by decide +kernel), if_neg (by decide +kernel), if_neg (by decide +kernel), if_neg (by decide +kernel), rdNum_at h (by omega) (by omega)]
      dsimp only
      rw [if_neg (fun z => absurd z.1 (by decide +kernel)), Int.emod_eq_of_lt (by omega) (by omega)]
    | int =>
      rw [if_neg (by decide +kernel), if_neg (by decide +kernel), if_neg (by decide +kernel), if_neg (by decide +kernel), rdNum_at h (by omega) (by omega)]
      dsimp only
      by_cases c : 2147483647 < i % 4294967296
      · rw [if_pos ⟨rfl, c⟩, show i % 4294967296 - 4294967296 = i by omega]
      · rw [if_neg (fun z => c z.2), show i % 4294967296 = i by omega]
    | object =>
      rw [if_neg (by decide +kernel), if_neg (by decide +kernel), if_neg (by decide +kernel), if_pos (Or.inl rfl), rdNamed_at h (by omega) (by omega)]
      dsimp only
      rw [Int.emod_eq_of_lt (by omega) (by omega)]
    | new =>
      rw [if_neg (by decide +kernel), if_neg (by decide +kernel), if_neg (by decide +kernel), if_pos (Or.inr rfl), rdNamed_at h (by omega) (by omega)]
      dsimp only
      rw [Int.emod_eq_of_lt (by omega) (by omega)]
  | txt =>
    unfold rdKind
    rw [if_pos rfl, rdText_at h hp hb.symm]
  | oct =>
    unfold rdKind
    rw [if_neg (by decide +kernel), if_pos rfl, rdOcts_at h hp hb.symm]
  | bnd =>
    rename_i s n
    have hb' := hb.symm
    rw [Bool.and_eq_true] at hb'
    have hn := of_decide_eq_true hb'.2
    unfold rdKind rdBound
    rw [if_neg (by decide +kernel), if_neg (by decide +kernel), if_pos rfl, rdText_at h.left hp hb'.1]
    dsimp only
    rw [rdNamed_at h.right (by omega) (by omega)]
    dsimp only
    rw [List.length_append, octs_len, Nat.add_assoc]
theorem octs_ok {n : Int} {c : Nat} : okOcts (octs n c) := fun x hx => by
  obtain ⟨k, _, rfl⟩ := List.mem_map.mp hx
  exact ⟨Int.emod_nonneg _ (by decide), by have := Int.emod_lt_of_pos (n / 2 ^ (8 * k)) (show (0 : Int) < 256 by decide); omega⟩
theorem okOcts.app {a b : List Int} (h : okOcts a) (g : okOcts b) : okOcts (a ++ b) := fun x hx => (List.mem_append.mp hx).elim (h x) (g x)
theorem okOcts.pad {a : List Int} (h : okOcts a) : okOcts (pad a) := h.app fun x hx => by
  rw [(List.mem_replicate.mp hx).2]; decide
theorem textOcts_ok {s : Str} (ok : isText s = true) : okOcts (textOcts s) := by
  unfold isText at ok
  rw [Bool.and_eq_true] at ok
  refine ((octs_ok.app fun x hx => ?_).app fun x hx => ?_).pad
  · obtain ⟨c, hc, rfl⟩ := List.mem_map.mp hx
    have := of_decide_eq_true (List.all_eq_true.mp ok.2 c hc)
    omega
  · rw [List.mem_singleton.mp hx]; decide
theorem spec_ok {k : Str} {x : AV} {os : List Int} (hs : ArgSpec k x true os) : okOcts os := by
  generalize hb : true = ok at hs
  cases hs with
  | num => exact octs_ok
  | txt => exact textOcts_ok hb.symm
  | oct =>
    have hb' := hb.symm
    unfold octsOk at hb'
    rw [Bool.and_eq_true] at hb'
    exact (octs_ok.app fun x hx => of_decide_eq_true (List.all_eq_true.mp hb'.2 x hx)).pad
  | bnd =>
    have hb' := hb.symm
    rw [Bool.and_eq_true] at hb'
    exact (textOcts_ok hb'.1).app octs_ok
theorem body_ok {args : List Arg} (h : ∀ g ∈ args, ArgSpec g.kind g.val true g.os) : okOcts (bodyOf args) := fun x hx => by
  obtain ⟨g, hg, hx⟩ := List.mem_flatMap.mp hx
  exact spec_ok (h g hg) x hx
theorem rdAll_at {xs : List Int} : ∀ (args : List Arg) (p : Nat), (∀ g ∈ args, ArgSpec g.kind g.val true g.os) → AtO xs p (bodyOf args) → p % 4 = 0 → rdAll xs (args.map Arg.kind) p = .ok (args.map Arg.val, p + (bodyOf args).length)
  | [], p, _, _, _ => rfl
  | g :: r, p, hs, h, hp => by
    have h' : AtO xs p (g.os ++ bodyOf r) := h
    have hg := hs g List.mem_cons_self
    have hm := spec_mod hg
    have ih := rdAll_at r (p + g.os.length) (fun x hx => hs x (List.mem_cons_of_mem _ hx)) h'.right (by omega)
    show rdAll xs (g.kind :: r.map Arg.kind) p = _
    unfold rdAll
    rw [rdKind_at hg h'.left hp]
    dsimp only
    rw [ih]
    dsimp only
    show _ = Except.ok (_, p + (g.os ++ bodyOf r).length)
    rw [List.length_append, Nat.add_assoc]; rfl
theorem rdArgs_at {args : List Arg} (hs : ∀ g ∈ args, ArgSpec g.kind g.val true g.os) : rdArgs (bodyOf args) (args.map Arg.kind) = .ok (args.map Arg.val) := by
  unfold rdArgs
  rw [rdAll_at args 0 hs ⟨[], [], by rw [List.append_nil]; rfl, rfl⟩ rfl]
  dsimp only
  exact if_neg (by omega)
/-! ### the values as data -/
def avD : AV → PyData
  | .num i => .int i
  | .txt s => .str s
  | .oct xs => pInts xs
  | .bnd s n => .tuple [.str s, .int n]
theorem avD_at {K : PySem.W.Frag} {H : Hp} {v : V} {x : AV} (h : ArgAt K H v x) : Dp K H v (avD x) := by
  cases x with
  | num i => obtain rfl : v = .int i := h; exact .int i
  | txt s => obtain ⟨rfl, _⟩ := h; exact .str s
  | oct xs => obtain ⟨a, rfl, e, _⟩ := h; exact dp_ints (SqL.of e)
  | bnd s n => obtain ⟨a, rfl, e, _⟩ := h; exact .tup e (.cons (.str s) (.cons (.int n) .nil))
theorem text_strOk {s : Str} (ok : isText s = true) : PyData.strOk s = true := by
  unfold isText at ok
  rw [Bool.and_eq_true] at ok
  unfold PyData.strOk
  rw [← Array.all_toList, List.all_eq_true]
  intro c hc
  have := of_decide_eq_true (List.all_eq_true.mp ok.2 c hc)
  exact decide_eq_true (by omega)
theorem avD_sh {k : Str} {x : AV} {os : List Int} (hs : ArgSpec k x true os) : Sh 1 (avD x) := by
  generalize hb : true = ok at hs
  cases hs with
  | num => exact (sh_int _).mono (by decide)
  | txt => exact (sh_str (text_strOk hb.symm)).mono (by decide)
  | oct => exact sh_ints _
  | bnd =>
    have hb' := hb.symm
    rw [Bool.and_eq_true] at hb'
    refine sh_tuple fun d hd => ?_
    simp only [List.mem_cons, List.not_mem_nil, or_false] at hd
    rcases hd with rfl | rfl
    · exact sh_str (text_strOk hb'.1)
    · exact sh_int _
theorem dpall_of {K : PySem.W.Frag} {H : Hp} : ∀ {vs : List V} {ds : List PyData}, vs.length = ds.length → (∀ (i : Nat) (v : V), vs[i]? = some v → ∃ d, ds[i]? = some d ∧ Dp K H v d) → DpAll K H vs ds
  | [], [], _, _ => .nil
  | v :: vs, d :: ds, hl, h => by
    obtain ⟨d', e, q⟩ := h 0 v rfl
    obtain rfl := Option.some.inj e
    exact .cons q (dpall_of (Nat.succ.inj hl) fun i x hx => h (i + 1) x hx)
theorem ValsAt.dp {K : PySem.W.Frag} {H : Hp} {vs : List V} {rs : List AV} (h : ValsAt K H vs rs) : DpAll K H vs (rs.map avD) :=
  dpall_of (by rw [List.length_map]; exact h.1) fun i v hv => by
    obtain ⟨x, e, q⟩ := h.2 i v hv
    exact ⟨avD x, by rw [List.getElem?_map, e]; rfl, avD_at q⟩
theorem sc_law : FnScope ["script", "k", "row", "count", "kinds", "values", "octets", "j", "more", "kind", "value", "kept", "told"] ["script"] (defScope s_law) := ⟨rfl, rfl, rfl, by decide +kernel, rfl, by decide +kernel, by decide +kernel⟩
theorem ok_law (T : Txt K mg A) : FnOk P w K mg base CX0 7 A.flaw A.dlaw ["script"] (sp_law K) := by
  refine T.Flaw.ok sc_law (fun vs H Q E h => ?_) (fun cdv Ar outer s H vs Q E hr h => ?_)
  · obtain ⟨a, ns, rfl, _⟩ := h
    rfl
  · obtain ⟨a, ns, rfl, hS, hlen, q⟩ := h
    refine ⟨_, (pss_cons (ps_for PassesOwn.never rfl (pi_range1 (by rfl) T.range (pa_cons (pe_op op_add (pe_callB (call_min2 rfl) (by rfl) T.min (by decide +kernel) (pa_cons (pe_callB call_len_seq (by rfl) T.len PySem.boot_len (pa_cons (pv 0) pa_nil)) (pa_cons pe_int pa_nil))) pe_int) pa_nil)) (pg_name (i := 1) sc_law.nd rfl (Or.inl rfl))
      (pss_cons (ps_set (i := 2) sc_law.nd rfl (Or.inl rfl) (pe_call (ok__law_row T) (hr.mono (by decide)) rfl T.g_law_row T.k_law_row T.b_law_row .nil pass0 (pa_cons (pv 0) (pa_cons (pv 1) pa_nil))))
      (pss_cons (ps_set (i := 3) sc_law.nd rfl (Or.inl rfl) (pe_op op_mod (pe_callTy call_int1 (by rfl) T.int (by decide +kernel) (pa_cons (pv 2) pa_nil)) pe_int))
      (pss_cons (ps_set (i := 4) sc_law.nd rfl (Or.inl rfl) (pe_lst pa_nil))
      (pss_cons (ps_set (i := 5) sc_law.nd rfl (Or.inl rfl) (pe_lst pa_nil))
      (pss_cons (ps_set (i := 6) sc_law.nd rfl (Or.inl rfl) (pe_lst pa_nil))
      (pss_cons (ps_for PassesOwn.never rfl (pi_range1 (by rfl) T.range (pa_cons (pv 3) pa_nil)) (pg_name (i := 7) sc_law.nd rfl (Or.inl rfl))
      (pss_cons (ps_set (i := 8) sc_law.nd rfl (Or.inl rfl) (pe_op op_add (pe_call (ok__law_row T) (hr.mono (by decide)) rfl T.g_law_row T.k_law_row T.b_law_row .nil pass0 (pa_cons (pv 0) (pa_cons (pe_op op_add (pe_op op_add pe_int (pe_op op_mul pe_int (pv 1))) (pv 7)) pa_nil))) (pe_op op_fdiv (pv 2) (pe_op op_add (pv 7) pe_int))))
      (pss_cons (ps_set (i := 9) sc_law.nd rfl (Or.inl rfl) (pe_call (ok__law_kind T) (hr.mono (by decide)) rfl T.g_law_kind T.k_law_kind T.b_law_kind .nil pass0 (pa_cons (pv 8) pa_nil)))
      (pss_cons (ps_set (i := 10) sc_law.nd rfl (Or.inl rfl) (pe_call (ok__law_value T) (hr.mono (by decide)) rfl T.g_law_value T.k_law_value T.b_law_value .nil pass0 (pa_cons (pv 9) (pa_cons (pe_callTy call_int1 (by rfl) T.int (by decide +kernel) (pa_cons (pe_op op_fdiv (pv 8) pe_int) pa_nil)) pa_nil))))
      (pss_cons (ps_expr (pe_bm PySem.F.plainAttrs_list PySem.F.slot_list_append PySem.F.type_list_append mt_append (pv 4) (pa_cons (pv 9) pa_nil)))
      (pss_cons (ps_expr (pe_bm PySem.F.plainAttrs_list PySem.F.slot_list_append PySem.F.type_list_append mt_append (pv 5) (pa_cons (pv 10) pa_nil)))
      (pss_one (ps_set (i := 6) sc_law.nd rfl (Or.inl rfl) (pe_op op_cat (pv 6) (pe_call (ok_field_octets T) (hr.mono (by decide)) rfl T.gfield_octets T.kfield_octets T.bfield_octets .nil passL (pa_cons (pv 9) (pa_cons (pv 10) pa_nil))))))))))))
      (pss_cons (ps_set (i := 11) sc_law.nd rfl (Or.inl rfl) (pe_callTy call_list_of (by rfl) T.list (by decide +kernel) (pa_cons (pv 6) pa_nil)))
      (pss_cons (ps_set (i := 12) sc_law.nd rfl (Or.inl rfl) (pe_call (ok_read_arguments T) (hr.mono (by decide)) rfl T.gread_arguments T.kread_arguments T.bread_arguments .nil passL (pa_cons (pe_callTy call_list_of (by rfl) T.list (by decide +kernel) (pa_cons (pv 4) pa_nil)) (pa_cons (pv 6) pa_nil))))
      (pss_cons (ps_if (PW.pt (pw_or (pt_not (pt_val (pe_callB call_isi (by rfl) T.isinstance (by decide +kernel) (pa_cons (pv 12) (pa_cons (pe_bltn (v := .ty "list") (by rfl) T.list (by decide +kernel) rfl) pa_nil))))) (pw_or (pt_cmpR (op_neD hr.units) (pv 12) (pv 5) (nomark _)) (pw_or1 (pt_cmpR (op_neD hr.units) (pv 6) (pv 11) (nomark _))))))
      (pss_one (ps_ret pe_bl))
      pss_nil)
      (pss_one (ps_for PassesOwn.never rfl (pi_range1 (by rfl) T.range (pa_cons (pv 3) pa_nil)) (pg_name (i := 7) sc_law.nd rfl (Or.inl rfl))
      (pss_one (ps_if (PW.pt (pw_and (pt_cmpR op_eq (pe_ix (r := rIxL K) ix_list (pv 4) (pv 7) (fun _ _ => rfl)) pe_str (nomark _)) (pw_and1 (pt_not (pt_val (pe_callB call_isi (by rfl) T.isinstance (by decide +kernel) (pa_cons (pe_ix (r := rIxL K) ix_list (pv 12) (pv 7) (fun _ _ => rfl)) (pa_cons (pe_bltn (v := .ty "tuple") (by rfl) T.tuple (by decide +kernel) rfl) pa_nil))))))))
      (pss_one (ps_ret pe_bl))
      pss_nil))))))))))))))
      (pss_one (ps_ret pe_bl))), ?_⟩
    refine ⟨_, rfl, a, _, rfl, .inl hS, _, _, rfl, _, _, rfl, rfl, _, rfl, ?_, ?_, ?_⟩
    · split <;> omega
    · rw [List.length_map]; split <;> omega
    refine for_range (lo := 0) (fun i σ H' => ∃ v1 v2 v3 v4 v5 v6 v7 v8 v9 v10 v11 v12 : Option V, σ = [some (.ref a), v1, v2, v3, v4, v5, v6, v7, v8, v9, v10, v11, v12] ∧ Same H H') ⟨_, _, _, _, _, _, _, _, _, _, _, _, rfl, Same.refl H⟩ ?_ ?_
    · rintro i σ H1 hi ⟨v1, v2, v3, v4, v5, v6, v7, v8, v9, v10, v11, v12, rfl, s1⟩
      refine ⟨_, rfl, _, rfl, a, ns, i, ?_, s1.seq hS, ?_⟩
      · show [V.ref a, V.int (0 + (i : Int))] = [V.ref a, V.int (i : Int)]
        rw [Int.zero_add]
      generalize lawRow ns i = row
      refine ⟨_, rfl, Or.inl ⟨_, rfl, ?_⟩⟩
      refine ⟨_, _, rfl, rfl, by show (0 : Int) < 7; decide, ?_⟩
      obtain ⟨c, hc, hc7⟩ : ∃ c : Nat, row % 7 = (c : Int) ∧ c < 7 := ⟨(row % 7).toNat, by omega, by omega⟩
      dsimp only
      rw [hc]
      refine ⟨len_line (by show 0 ≤ 100000; decide), fun pK hK => ?_⟩
      refine ⟨len_line (by show 0 ≤ 100000; decide), fun pV hV => ?_⟩
      refine ⟨len_line (by show 0 ≤ 100000; decide), fun pO0 hO0 => ?_⟩
      have sK := same_upd (o := .lst []) hK
      have sV := same_upd (o := .lst []) hV
      have hV1 : H1 pV = none := sK.free hV
      have nKV : pK ≠ pV := ne_of_none upd_same hV
      have nKO : pK ≠ pO0 := ne_of_none (sV _ _ upd_same) hO0
      have nVO : pV ≠ pO0 := ne_of_none upd_same hO0
      have sO := same_upd (o := .lst []) hO0
      refine ⟨_, rfl, _, rfl, by omega, by omega, ?_⟩
      refine for_range (lo := 0) (fun j σ H' => ∃ (v7 v8 v9 v10 : Option V) (pO : Addr) (U : Hp) (us : List V) (args : List Arg),
          σ = [some (.ref a), some (.int (0 + (i : Int))), some (.int row), some (.int (c : Int)), some (.ref pK), some (.ref pV), some (.ref pO), v7, v8, v9, v10, v11, v12] ∧ Ext H1 H1 U H' ∧ U pK = none ∧ U pV = none ∧
          H' pK = some (.lst ((args.map Arg.kind).map V.str)) ∧ H' pV = some (.lst us) ∧ H' pO = some (.lst ((bodyOf args).map V.int)) ∧ pO ≠ pK ∧ pO ≠ pV ∧ ValsAt K U us (args.map Arg.val) ∧ (∀ g ∈ args, ArgSpec g.kind g.val true g.os ∧ g.os.length ≤ 60) ∧ args.length = j)
        ⟨v7, v8, v9, v10, pO0, H1, [], [], rfl, ⟨Same.refl H1, sK.trans (sV.trans sO), sK.trans (sV.trans sO), fun _ h => Or.inl h⟩, hK, hV1, sO _ _ (sV _ _ upd_same), sO _ _ upd_same, upd_same, nKO.symm, nVO.symm, ValsAt.nil, (fun g hg => by cases hg), rfl⟩ ?_ ?_
      · rintro j σ H2 hj ⟨v7, v8, v9, v10, pO, U, us, args, rfl, x1, hUK, hUV, eK, eV, eO, nOK, nOV, hv, hA, hl⟩
        have hj7 : j < 7 := by omega
        refine ⟨_, rfl, _, rfl, _, _, rfl, rfl, Or.inl ⟨by decide, by decide⟩, _, _, rfl, rfl, _, rfl, _, _, rfl, rfl, a, ns, 63 + 7 * i + j, ?_, (s1.trans x1.hh).seq hS, ?_⟩
        · show [V.ref a, V.int (63 + 7 * (0 + (i : Int)) + (0 + (j : Int)))] = _
          rw [Int.zero_add, Int.zero_add]; rfl
        refine ⟨_, rfl, _, rfl, _, _, rfl, rfl, _, _, rfl, rfl, ⟨by show (0 : Int) < 0 + (j : Int) + 1; omega, by show 0 + (j : Int) + 1 < 1073741824; omega⟩, _, _, rfl, rfl, ?_⟩
        dsimp only
        generalize lawRow ns (63 + 7 * i + j) + row / (0 + (j : Int) + 1) = more
        refine ⟨_, rfl, more, rfl, fun kd H3 s3 hkd => ?_⟩
        refine ⟨_, rfl, _, rfl, _, _, rfl, rfl, ⟨by decide, by decide⟩, Or.inl ⟨_, rfl, ?_⟩⟩
        refine ⟨kd, more / 8, U, rfl, hkd, x1.vh.trans s3, fun v x os U4 H4 x4 hsp hat hos => ?_⟩
        have xa : Ext U H2 U H3 := ⟨Same.refl U, x1.vh.trans s3, s3, fun _ h => Or.inl h⟩
        have x5 := (x1.trans xa).trans x4
        have hUK4 : U4 pK = none := (xa.trans x4).keepOut hUK (by rw [eK]; exact fun z => by cases z)
        have hUV4 : U4 pV = none := (xa.trans x4).keepOut hUV (by rw [eV]; exact fun z => by cases z)
        have sx := (xa.trans x4).hh
        have eK4 := sx _ _ eK
        have eV4 := sx _ _ eV
        have eO4 := sx _ _ eO
        have hul : us.length = args.length := by rw [hv.1, List.length_map]
        refine ⟨_, rfl, .inl ⟨rfl, _, SqL.of eK4⟩, _, rfl, pK, _, .str kd, rfl, rfl, eK4, lt_line (by rw [List.length_map, List.length_map]; omega), ?_⟩
        have x6 := x5.poke (o := .lst ((args.map Arg.kind).map V.str ++ [V.str kd])) hK hUK4
        have eK5 : (upd H4 pK (.lst ((args.map Arg.kind).map V.str ++ [V.str kd]))) pK = some (.lst ((args.map Arg.kind).map V.str ++ [V.str kd])) := upd_same
        have eV5 : (upd H4 pK (.lst ((args.map Arg.kind).map V.str ++ [V.str kd]))) pV = some (.lst us) := by rw [upd_ne nKV.symm]; exact eV4
        have eO5 : (upd H4 pK (.lst ((args.map Arg.kind).map V.str ++ [V.str kd]))) pO = some (.lst ((bodyOf args).map V.int)) := by rw [upd_ne nOK]; exact eO4
        generalize upd H4 pK (.lst ((args.map Arg.kind).map V.str ++ [V.str kd])) = H5 at x6 eK5 eV5 eO5 ⊢
        refine ⟨_, rfl, .inl ⟨rfl, _, SqL.of eV5⟩, _, rfl, pV, us, v, rfl, rfl, eV5, lt_line (by omega), ?_⟩
        have x7 := x6.poke (o := .lst (us ++ [v])) hV1 hUV4
        have eK6 : (upd H5 pV (.lst (us ++ [v]))) pK = some (.lst ((args.map Arg.kind).map V.str ++ [V.str kd])) := by rw [upd_ne nKV]; exact eK5
        have eV6 : (upd H5 pV (.lst (us ++ [v]))) pV = some (.lst (us ++ [v])) := upd_same
        have eO6 : (upd H5 pV (.lst (us ++ [v]))) pO = some (.lst ((bodyOf args).map V.int)) := by rw [upd_ne nOV]; exact eO5
        generalize upd H5 pV (.lst (us ++ [v])) = H6 at x7 eK6 eV6 eO6 ⊢
        refine ⟨_, rfl, _, rfl, _, rfl, kd, v, x, true, os, rfl, hsp, hat.to x7.vh, fun _ p2 H7 n7 => ?_, fun z => nomatch z⟩
        have hbl := body_len_le (c := 60) fun g hg => (hA g hg).2
        refine ⟨pO, p2, _, _, rfl, rfl, n7.same _ _ eO6, n7.at_, ?_, fun p8 h8 => ?_⟩
        · rw [List.length_map, List.length_map]; exact len_line (by omega)
        have s8 := n7.same.trans (same_upd (o := .lst ((bodyOf args).map V.int ++ os.map V.int)) h8)
        refine ⟨_, _, _, _, p8, U4, us ++ [v], args ++ [⟨kd, x, os⟩], rfl, x7.trans ⟨Same.refl U4, x7.vh.trans s8, s8, fun _ h => Or.inl h⟩, hUK4, hUV4, ?_, s8 _ _ eV6, ?_, ?_, ?_, ?_, fun g hg => ?_, by rw [List.length_append, hl]; rfl⟩
        · rw [s8 _ _ eK6, List.map_append, List.map_append]; rfl
        · rw [upd_same]; unfold bodyOf; rw [List.flatMap_append, List.map_append]; show _ = some (HO.lst (_ ++ (os ++ []).map V.int)); rw [List.append_nil]
        · exact (ne_of_none (n7.same _ _ eK6) h8).symm
        · exact (ne_of_none (n7.same _ _ eV6) h8).symm
        · rw [List.map_append]; exact (hv.to x4.vv).push hat
        · rcases List.mem_append.mp hg with h | h
          · exact hA g h
          · obtain rfl := List.mem_singleton.mp h
            exact ⟨hsp, hos⟩
      · rintro σ H2 ⟨v7, v8, v9, v10, pO, U, us, args, rfl, x1, hUK, hUV, eK, eV, eO, nOK, nOV, hv, hA, hl⟩
        have hl7 : args.length = c := by omega
        have hbl := body_len_le (c := 60) fun g hg => (hA g hg).2
        have hsp := fun g hg => (hA g hg).1
        have hul : us.length = args.length := by rw [hv.1, List.length_map]
        refine ⟨_, rfl, pO, _, rfl, .inl (SqL.of eO), fun p8 h8 => ?_⟩
        have s8 := same_upd (o := .lst ((bodyOf args).map V.int)) h8
        refine ⟨_, rfl, pK, _, rfl, .inl (SqL.of (s8 _ _ eK)), fun p9 h9 => ?_⟩
        have s9 := same_upd (o := .lst ((args.map Arg.kind).map V.str)) h9
        have sa := s8.trans s9
        refine ⟨_, rfl, p9, pO, args.map Arg.kind, bodyOf args, rfl, SqL.of upd_same, by rw [List.length_map]; omega, ⟨SqL.of (sa _ _ eO), body_ok hsp, by omega⟩, (fun e H' he => by rw [rdArgs_at hsp] at he; cases he), fun rs us' pT HT he hT sT eT vT => ?_⟩
        rw [rdArgs_at hsp] at he
        obtain rfl := Except.ok.inj he
        have sb := sa.trans sT
        have e8 := sT _ _ (s9 _ _ (upd_same (H := H2) (a := p8) (o := .lst ((bodyOf args).map V.int))))
        have dd : Sh 2 (.list ((args.map Arg.val).map avD)) := sh_list fun d hd => by
          obtain ⟨x, hx, rfl⟩ := List.mem_map.mp hd
          obtain ⟨g, hg, rfl⟩ := List.mem_map.mp hx
          exact avD_sh (hsp g hg)
        refine ⟨_, rfl, .ref pT, .ty "list", .type "list", .type "list", true, rfl, .ty _, tyL (K := K) (SqL.of eT), kit_ty (by decide +kernel), _, rfl, if_f rfl ?_⟩
        refine ⟨_, rfl, _, rfl, _, _, .lst (SqL.of eT) vT.dp, .lst (SqL.of (sb _ _ eV)) (hv.to (x1.vh.trans sb)).dp, dd.shaped, dd.shaped, _, rfl, if_f (by rw [dd.self]; rfl) ?_⟩
        refine ⟨_, rfl, _, rfl, _, _, dp_ints (SqL.of (sb _ _ eO)), dp_ints (SqL.of e8), (sh_ints _).shaped, (sh_ints _).shaped, _, rfl, if_f (by rw [(sh_ints _).self]; rfl) ?_⟩
        refine ⟨_, rfl, _, rfl, by omega, by omega, ?_⟩
        refine for_range (lo := 0) (fun j σ H' => ∃ v7 : Option V, σ = [some (.ref a), some (.int (0 + (i : Int))), some (.int row), some (.int (c : Int)), some (.ref pK), some (.ref pV), some (.ref pO), v7, v8, v9, v10, some (.ref p8), some (.ref pT)] ∧ H' = HT) ⟨v7, rfl, rfl⟩ ?_ ?_
        · rintro j σ H3 hj ⟨v7, rfl, e⟩
          obtain rfl : HT = H3 := e.symm
          have hjl : j < args.length := by omega
          have hsj := hsp args[j] (List.getElem_mem hjl)
          refine ⟨_, rfl, _, rfl, pK, _, _, .str args[j].kind, rfl, rfl, SqL.of (sb _ _ eK), at_of (j := j) (by omega) (by rw [List.getElem?_map, List.getElem?_map, List.getElem?_eq_getElem hjl]; rfl), rfl, _, rfl, if_b (fun hk => ?_) (fun _ => if_f rfl ⟨_, rfl, rfl⟩)⟩
          have hjt : j < us'.length := by rw [vT.1, List.length_map]; exact hjl
          obtain ⟨x, hx, hat⟩ := vT.2 j us'[j] (List.getElem?_eq_getElem hjt)
          rw [List.getElem?_map, List.getElem?_eq_getElem hjl] at hx
          obtain rfl := Option.some.inj hx
          have hkb : args[j].kind = "bound" := V.str.inj (of_decide_eq_true hk)
          obtain ⟨t, et, tt⟩ : ∃ t, us'[j] = .ref t ∧ TyX K HT (.ref t) (.type "tuple") := by
            generalize args[j].val = av at hat hsj
            rw [hkb] at hsj
            generalize hkk : ("bound" : Str) = kk at hsj
            generalize args[j].os = oo at hsj
            generalize hb : true = ok at hsj
            cases hsj with
            | num h => cases h <;> exact absurd hkk (by decide +kernel)
            | txt => exact absurd hkk (by decide +kernel)
            | oct => exact absurd hkk (by decide +kernel)
            | bnd => obtain ⟨t, e1, e2, _⟩ := hat; exact ⟨t, e1, tyT e2⟩
          refine ⟨_, rfl, _, rfl, pT, _, _, us'[j], rfl, rfl, SqL.of eT, at_of (j := j) (by omega) (List.getElem?_eq_getElem hjt), ?_⟩
          rw [et]
          exact ⟨.ref t, .ty "tuple", .type "tuple", .type "tuple", true, rfl, .ty _, tt, kit_ty (by decide +kernel), _, rfl, ⟨_, rfl, rfl⟩⟩
        · rintro σ H3 ⟨v7, rfl, e⟩
          obtain rfl : HT = H3 := e.symm
          exact ⟨_, _, _, _, _, _, _, _, _, _, _, _, rfl, s1.trans (x1.hh.trans sb)⟩
    · rintro σ H1 _
      exact q H1
end
theorem all_mk {K : PySem.W.Frag} {h : Heap} {mg : Str → Option Value} {fa : Addr} (X : K.In h) (G : h.Ns mainGlobals mg) (hfa : mg "law" = some (.ref fa))
    {fis_integer : Addr} {od1 an1 : Option Addr} {sl1 : Array (Option Value)} {oc1 kV1 dc1 pm1 cd1 ct1 : Value}
    {fis_text : Addr} {od2 an2 : Option Addr} {sl2 : Array (Option Value)} {oc2 kV2 dc2 pm2 cd2 ct2 : Value}
    {fnumber_octets : Addr} {od3 an3 : Option Addr} {sl3 : Array (Option Value)} {oc3 kV3 dc3 pm3 cd3 ct3 : Value}
    {fnumber_at : Addr} {od4 an4 : Option Addr} {sl4 : Array (Option Value)} {oc4 kV4 dc4 pm4 cd4 ct4 : Value}
    {ffield_octets : Addr} {od5 an5 : Option Addr} {sl5 : Array (Option Value)} {oc5 kV5 dc5 pm5 cd5 ct5 : Value}
    {fread_arguments : Addr} {od6 an6 : Option Addr} {sl6 : Array (Option Value)} {oc6 kV6 dc6 pm6 cd6 ct6 : Value}
    {f_is_code : Addr} {od7 an7 : Option Addr} {sl7 : Array (Option Value)} {oc7 kV7 dc7 pm7 cd7 ct7 : Value}
    {f_is_of : Addr} {od8 an8 : Option Addr} {sl8 : Array (Option Value)} {oc8 kV8 dc8 pm8 cd8 ct8 : Value}
    {f_are_octets : Addr} {od9 an9 : Option Addr} {sl9 : Array (Option Value)} {oc9 kV9 dc9 pm9 cd9 ct9 : Value}
    {f_is_bound : Addr} {od10 an10 : Option Addr} {sl10 : Array (Option Value)} {oc10 kV10 dc10 pm10 cd10 ct10 : Value}
    {f_text_octets : Addr} {od11 an11 : Option Addr} {sl11 : Array (Option Value)} {oc11 kV11 dc11 pm11 cd11 ct11 : Value}
    {f_padded : Addr} {od12 an12 : Option Addr} {sl12 : Array (Option Value)} {oc12 kV12 dc12 pm12 cd12 ct12 : Value}
    {f_read : Addr} {od13 an13 : Option Addr} {sl13 : Array (Option Value)} {oc13 kV13 dc13 pm13 cd13 ct13 : Value}
    {f_read_number : Addr} {od14 an14 : Option Addr} {sl14 : Array (Option Value)} {oc14 kV14 dc14 pm14 cd14 ct14 : Value}
    {f_read_named : Addr} {od15 an15 : Option Addr} {sl15 : Array (Option Value)} {oc15 kV15 dc15 pm15 cd15 ct15 : Value}
    {f_read_text : Addr} {od16 an16 : Option Addr} {sl16 : Array (Option Value)} {oc16 kV16 dc16 pm16 cd16 ct16 : Value}
    {f_read_octets : Addr} {od17 an17 : Option Addr} {sl17 : Array (Option Value)} {oc17 kV17 dc17 pm17 cd17 ct17 : Value}
    {f_demand : Addr} {od18 an18 : Option Addr} {sl18 : Array (Option Value)} {oc18 kV18 dc18 pm18 cd18 ct18 : Value}
    {f_behind_padding : Addr} {od19 an19 : Option Addr} {sl19 : Array (Option Value)} {oc19 kV19 dc19 pm19 cd19 ct19 : Value}
    {f_law_cell : Addr} {od20 an20 : Option Addr} {sl20 : Array (Option Value)} {oc20 kV20 dc20 pm20 cd20 ct20 : Value}
    {f_law_row : Addr} {od21 an21 : Option Addr} {sl21 : Array (Option Value)} {oc21 kV21 dc21 pm21 cd21 ct21 : Value}
    {f_law_sign : Addr} {od22 an22 : Option Addr} {sl22 : Array (Option Value)} {oc22 kV22 dc22 pm22 cd22 ct22 : Value}
    {f_law_text : Addr} {od23 an23 : Option Addr} {sl23 : Array (Option Value)} {oc23 kV23 dc23 pm23 cd23 ct23 : Value}
    {f_law_octets : Addr} {od24 an24 : Option Addr} {sl24 : Array (Option Value)} {oc24 kV24 dc24 pm24 cd24 ct24 : Value}
    {f_law_value : Addr} {od25 an25 : Option Addr} {sl25 : Array (Option Value)} {oc25 kV25 dc25 pm25 cd25 ct25 : Value}
    {f_law_kind : Addr} {od26 an26 : Option Addr} {sl26 : Array (Option Value)} {oc26 kV26 dc26 pm26 cd26 ct26 : Value}
    {flaw : Addr} {od27 an27 : Option Addr} {sl27 : Array (Option Value)} {oc27 kV27 dc27 pm27 cd27 ct27 : Value}
    {tGREATEST_NUMBER : Tok}
    {tLEAST_INT : Tok}
    {tGREATEST_INT : Tok}
    {tLONGEST_TEXT : Tok}
    {tMOST_OCTETS : Tok}
    {t_FIRST_CODE : Tok}
    {t_LAST_CODE : Tok}
    {t_PERCENT_CODE : Tok}
    {t_CHARACTERS : Tok}
    {CBadMessage : Addr}
    {CBadLength : Addr}
    {CBadText : Addr}
    {CBadPadding : Addr}
    {CObjectMissing : Addr}
    (a1 : PySem.W.nsIn K mainGlobals "is_integer" = some (some (.ref fis_integer)))
    (l1 : K.lookup fis_integer = some ⟨oc1, od1, .func (PySem.W.fnOf "is_integer" "is_integer" (defArgs s_is_integer) (defBody s_is_integer) (defScope s_is_integer) .none kV1 dc1 pm1 an1 cd1 ct1), sl1⟩) (c1 : PySem.W.codeIn K cd1 "is_integer" = true) (k1 : PySem.W.keepIn K (.ref fis_integer) = true)
    (a2 : PySem.W.nsIn K mainGlobals "is_text" = some (some (.ref fis_text)))
    (l2 : K.lookup fis_text = some ⟨oc2, od2, .func (PySem.W.fnOf "is_text" "is_text" (defArgs s_is_text) (defBody s_is_text) (defScope s_is_text) .none kV2 dc2 pm2 an2 cd2 ct2), sl2⟩) (c2 : PySem.W.codeIn K cd2 "is_text" = true) (k2 : PySem.W.keepIn K (.ref fis_text) = true)
    (a3 : PySem.W.nsIn K mainGlobals "number_octets" = some (some (.ref fnumber_octets)))
    (l3 : K.lookup fnumber_octets = some ⟨oc3, od3, .func (PySem.W.fnOf "number_octets" "number_octets" (defArgs s_number_octets) (defBody s_number_octets) (defScope s_number_octets) .none kV3 dc3 pm3 an3 cd3 ct3), sl3⟩) (c3 : PySem.W.codeIn K cd3 "number_octets" = true) (k3 : PySem.W.keepIn K (.ref fnumber_octets) = true)
    (a4 : PySem.W.nsIn K mainGlobals "number_at" = some (some (.ref fnumber_at)))
    (l4 : K.lookup fnumber_at = some ⟨oc4, od4, .func (PySem.W.fnOf "number_at" "number_at" (defArgs s_number_at) (defBody s_number_at) (defScope s_number_at) .none kV4 dc4 pm4 an4 cd4 ct4), sl4⟩) (c4 : PySem.W.codeIn K cd4 "number_at" = true) (k4 : PySem.W.keepIn K (.ref fnumber_at) = true)
    (a5 : PySem.W.nsIn K mainGlobals "field_octets" = some (some (.ref ffield_octets)))
    (l5 : K.lookup ffield_octets = some ⟨oc5, od5, .func (PySem.W.fnOf "field_octets" "field_octets" (defArgs s_field_octets) (defBody s_field_octets) (defScope s_field_octets) .none kV5 dc5 pm5 an5 cd5 ct5), sl5⟩) (c5 : PySem.W.codeIn K cd5 "field_octets" = true) (k5 : PySem.W.keepIn K (.ref ffield_octets) = true)
    (a6 : PySem.W.nsIn K mainGlobals "read_arguments" = some (some (.ref fread_arguments)))
    (l6 : K.lookup fread_arguments = some ⟨oc6, od6, .func (PySem.W.fnOf "read_arguments" "read_arguments" (defArgs s_read_arguments) (defBody s_read_arguments) (defScope s_read_arguments) .none kV6 dc6 pm6 an6 cd6 ct6), sl6⟩) (c6 : PySem.W.codeIn K cd6 "read_arguments" = true) (k6 : PySem.W.keepIn K (.ref fread_arguments) = true)
    (a7 : PySem.W.nsIn K mainGlobals "_is_code" = some (some (.ref f_is_code)))
    (l7 : K.lookup f_is_code = some ⟨oc7, od7, .func (PySem.W.fnOf "_is_code" "_is_code" (defArgs s__is_code) (defBody s__is_code) (defScope s__is_code) .none kV7 dc7 pm7 an7 cd7 ct7), sl7⟩) (c7 : PySem.W.codeIn K cd7 "_is_code" = true) (k7 : PySem.W.keepIn K (.ref f_is_code) = true)
    (a8 : PySem.W.nsIn K mainGlobals "_is_of" = some (some (.ref f_is_of)))
    (l8 : K.lookup f_is_of = some ⟨oc8, od8, .func (PySem.W.fnOf "_is_of" "_is_of" (defArgs s__is_of) (defBody s__is_of) (defScope s__is_of) .none kV8 dc8 pm8 an8 cd8 ct8), sl8⟩) (c8 : PySem.W.codeIn K cd8 "_is_of" = true) (k8 : PySem.W.keepIn K (.ref f_is_of) = true)
    (a9 : PySem.W.nsIn K mainGlobals "_are_octets" = some (some (.ref f_are_octets)))
    (l9 : K.lookup f_are_octets = some ⟨oc9, od9, .func (PySem.W.fnOf "_are_octets" "_are_octets" (defArgs s__are_octets) (defBody s__are_octets) (defScope s__are_octets) .none kV9 dc9 pm9 an9 cd9 ct9), sl9⟩) (c9 : PySem.W.codeIn K cd9 "_are_octets" = true) (k9 : PySem.W.keepIn K (.ref f_are_octets) = true)
    (a10 : PySem.W.nsIn K mainGlobals "_is_bound" = some (some (.ref f_is_bound)))
    (l10 : K.lookup f_is_bound = some ⟨oc10, od10, .func (PySem.W.fnOf "_is_bound" "_is_bound" (defArgs s__is_bound) (defBody s__is_bound) (defScope s__is_bound) .none kV10 dc10 pm10 an10 cd10 ct10), sl10⟩) (c10 : PySem.W.codeIn K cd10 "_is_bound" = true) (k10 : PySem.W.keepIn K (.ref f_is_bound) = true)
    (a11 : PySem.W.nsIn K mainGlobals "_text_octets" = some (some (.ref f_text_octets)))
    (l11 : K.lookup f_text_octets = some ⟨oc11, od11, .func (PySem.W.fnOf "_text_octets" "_text_octets" (defArgs s__text_octets) (defBody s__text_octets) (defScope s__text_octets) .none kV11 dc11 pm11 an11 cd11 ct11), sl11⟩) (c11 : PySem.W.codeIn K cd11 "_text_octets" = true) (k11 : PySem.W.keepIn K (.ref f_text_octets) = true)
    (a12 : PySem.W.nsIn K mainGlobals "_padded" = some (some (.ref f_padded)))
    (l12 : K.lookup f_padded = some ⟨oc12, od12, .func (PySem.W.fnOf "_padded" "_padded" (defArgs s__padded) (defBody s__padded) (defScope s__padded) .none kV12 dc12 pm12 an12 cd12 ct12), sl12⟩) (c12 : PySem.W.codeIn K cd12 "_padded" = true) (k12 : PySem.W.keepIn K (.ref f_padded) = true)
    (a13 : PySem.W.nsIn K mainGlobals "_read" = some (some (.ref f_read)))
    (l13 : K.lookup f_read = some ⟨oc13, od13, .func (PySem.W.fnOf "_read" "_read" (defArgs s__read) (defBody s__read) (defScope s__read) .none kV13 dc13 pm13 an13 cd13 ct13), sl13⟩) (c13 : PySem.W.codeIn K cd13 "_read" = true) (k13 : PySem.W.keepIn K (.ref f_read) = true)
    (a14 : PySem.W.nsIn K mainGlobals "_read_number" = some (some (.ref f_read_number)))
    (l14 : K.lookup f_read_number = some ⟨oc14, od14, .func (PySem.W.fnOf "_read_number" "_read_number" (defArgs s__read_number) (defBody s__read_number) (defScope s__read_number) .none kV14 dc14 pm14 an14 cd14 ct14), sl14⟩) (c14 : PySem.W.codeIn K cd14 "_read_number" = true) (k14 : PySem.W.keepIn K (.ref f_read_number) = true)
    (a15 : PySem.W.nsIn K mainGlobals "_read_named" = some (some (.ref f_read_named)))
    (l15 : K.lookup f_read_named = some ⟨oc15, od15, .func (PySem.W.fnOf "_read_named" "_read_named" (defArgs s__read_named) (defBody s__read_named) (defScope s__read_named) .none kV15 dc15 pm15 an15 cd15 ct15), sl15⟩) (c15 : PySem.W.codeIn K cd15 "_read_named" = true) (k15 : PySem.W.keepIn K (.ref f_read_named) = true)
    (a16 : PySem.W.nsIn K mainGlobals "_read_text" = some (some (.ref f_read_text)))
    (l16 : K.lookup f_read_text = some ⟨oc16, od16, .func (PySem.W.fnOf "_read_text" "_read_text" (defArgs s__read_text) (defBody s__read_text) (defScope s__read_text) .none kV16 dc16 pm16 an16 cd16 ct16), sl16⟩) (c16 : PySem.W.codeIn K cd16 "_read_text" = true) (k16 : PySem.W.keepIn K (.ref f_read_text) = true)
    (a17 : PySem.W.nsIn K mainGlobals "_read_octets" = some (some (.ref f_read_octets)))
    (l17 : K.lookup f_read_octets = some ⟨oc17, od17, .func (PySem.W.fnOf "_read_octets" "_read_octets" (defArgs s__read_octets) (defBody s__read_octets) (defScope s__read_octets) .none kV17 dc17 pm17 an17 cd17 ct17), sl17⟩) (c17 : PySem.W.codeIn K cd17 "_read_octets" = true) (k17 : PySem.W.keepIn K (.ref f_read_octets) = true)
    (a18 : PySem.W.nsIn K mainGlobals "_demand" = some (some (.ref f_demand)))
    (l18 : K.lookup f_demand = some ⟨oc18, od18, .func (PySem.W.fnOf "_demand" "_demand" (defArgs s__demand) (defBody s__demand) (defScope s__demand) .none kV18 dc18 pm18 an18 cd18 ct18), sl18⟩) (c18 : PySem.W.codeIn K cd18 "_demand" = true) (k18 : PySem.W.keepIn K (.ref f_demand) = true)
    (a19 : PySem.W.nsIn K mainGlobals "_behind_padding" = some (some (.ref f_behind_padding)))
    (l19 : K.lookup f_behind_padding = some ⟨oc19, od19, .func (PySem.W.fnOf "_behind_padding" "_behind_padding" (defArgs s__behind_padding) (defBody s__behind_padding) (defScope s__behind_padding) .none kV19 dc19 pm19 an19 cd19 ct19), sl19⟩) (c19 : PySem.W.codeIn K cd19 "_behind_padding" = true) (k19 : PySem.W.keepIn K (.ref f_behind_padding) = true)
    (a20 : PySem.W.nsIn K mainGlobals "_law_cell" = some (some (.ref f_law_cell)))
    (l20 : K.lookup f_law_cell = some ⟨oc20, od20, .func (PySem.W.fnOf "_law_cell" "_law_cell" (defArgs s__law_cell) (defBody s__law_cell) (defScope s__law_cell) .none kV20 dc20 pm20 an20 cd20 ct20), sl20⟩) (c20 : PySem.W.codeIn K cd20 "_law_cell" = true) (k20 : PySem.W.keepIn K (.ref f_law_cell) = true)
    (a21 : PySem.W.nsIn K mainGlobals "_law_row" = some (some (.ref f_law_row)))
    (l21 : K.lookup f_law_row = some ⟨oc21, od21, .func (PySem.W.fnOf "_law_row" "_law_row" (defArgs s__law_row) (defBody s__law_row) (defScope s__law_row) .none kV21 dc21 pm21 an21 cd21 ct21), sl21⟩) (c21 : PySem.W.codeIn K cd21 "_law_row" = true) (k21 : PySem.W.keepIn K (.ref f_law_row) = true)
    (a22 : PySem.W.nsIn K mainGlobals "_law_sign" = some (some (.ref f_law_sign)))
    (l22 : K.lookup f_law_sign = some ⟨oc22, od22, .func (PySem.W.fnOf "_law_sign" "_law_sign" (defArgs s__law_sign) (defBody s__law_sign) (defScope s__law_sign) .none kV22 dc22 pm22 an22 cd22 ct22), sl22⟩) (c22 : PySem.W.codeIn K cd22 "_law_sign" = true) (k22 : PySem.W.keepIn K (.ref f_law_sign) = true)
    (a23 : PySem.W.nsIn K mainGlobals "_law_text" = some (some (.ref f_law_text)))
    (l23 : K.lookup f_law_text = some ⟨oc23, od23, .func (PySem.W.fnOf "_law_text" "_law_text" (defArgs s__law_text) (defBody s__law_text) (defScope s__law_text) .none kV23 dc23 pm23 an23 cd23 ct23), sl23⟩) (c23 : PySem.W.codeIn K cd23 "_law_text" = true) (k23 : PySem.W.keepIn K (.ref f_law_text) = true)
    (a24 : PySem.W.nsIn K mainGlobals "_law_octets" = some (some (.ref f_law_octets)))
    (l24 : K.lookup f_law_octets = some ⟨oc24, od24, .func (PySem.W.fnOf "_law_octets" "_law_octets" (defArgs s__law_octets) (defBody s__law_octets) (defScope s__law_octets) .none kV24 dc24 pm24 an24 cd24 ct24), sl24⟩) (c24 : PySem.W.codeIn K cd24 "_law_octets" = true) (k24 : PySem.W.keepIn K (.ref f_law_octets) = true)
    (a25 : PySem.W.nsIn K mainGlobals "_law_value" = some (some (.ref f_law_value)))
    (l25 : K.lookup f_law_value = some ⟨oc25, od25, .func (PySem.W.fnOf "_law_value" "_law_value" (defArgs s__law_value) (defBody s__law_value) (defScope s__law_value) .none kV25 dc25 pm25 an25 cd25 ct25), sl25⟩) (c25 : PySem.W.codeIn K cd25 "_law_value" = true) (k25 : PySem.W.keepIn K (.ref f_law_value) = true)
    (a26 : PySem.W.nsIn K mainGlobals "_law_kind" = some (some (.ref f_law_kind)))
    (l26 : K.lookup f_law_kind = some ⟨oc26, od26, .func (PySem.W.fnOf "_law_kind" "_law_kind" (defArgs s__law_kind) (defBody s__law_kind) (defScope s__law_kind) .none kV26 dc26 pm26 an26 cd26 ct26), sl26⟩) (c26 : PySem.W.codeIn K cd26 "_law_kind" = true) (k26 : PySem.W.keepIn K (.ref f_law_kind) = true)
    (a27 : PySem.W.nsIn K mainGlobals "law" = some (some (.ref flaw)))
    (l27 : K.lookup flaw = some ⟨oc27, od27, .func (PySem.W.fnOf "law" "law" (defArgs s_law) (defBody s_law) (defScope s_law) .none kV27 dc27 pm27 an27 cd27 ct27), sl27⟩) (c27 : PySem.W.codeIn K cd27 "law" = true) (k27 : PySem.W.keepIn K (.ref flaw) = true)
    (z_all : PySem.W.nsIn K mainGlobals "all" = some none)
    (z_any : PySem.W.nsIn K mainGlobals "any" = some none)
    (z_bool : PySem.W.nsIn K mainGlobals "bool" = some none)
    (z_int : PySem.W.nsIn K mainGlobals "int" = some none)
    (z_isinstance : PySem.W.nsIn K mainGlobals "isinstance" = some none)
    (z_len : PySem.W.nsIn K mainGlobals "len" = some none)
    (z_list : PySem.W.nsIn K mainGlobals "list" = some none)
    (z_max : PySem.W.nsIn K mainGlobals "max" = some none)
    (z_min : PySem.W.nsIn K mainGlobals "min" = some none)
    (z_ord : PySem.W.nsIn K mainGlobals "ord" = some none)
    (z_range : PySem.W.nsIn K mainGlobals "range" = some none)
    (z_str : PySem.W.nsIn K mainGlobals "str" = some none)
    (z_sum : PySem.W.nsIn K mainGlobals "sum" = some none)
    (z_tuple : PySem.W.nsIn K mainGlobals "tuple" = some none)
    (q_GREATEST_NUMBER : PySem.W.nsIn K mainGlobals "GREATEST_NUMBER" = some (some (.int (4294967295) tGREATEST_NUMBER)))
    (q_LEAST_INT : PySem.W.nsIn K mainGlobals "LEAST_INT" = some (some (.int (-2147483648) tLEAST_INT)))
    (q_GREATEST_INT : PySem.W.nsIn K mainGlobals "GREATEST_INT" = some (some (.int (2147483647) tGREATEST_INT)))
    (q_LONGEST_TEXT : PySem.W.nsIn K mainGlobals "LONGEST_TEXT" = some (some (.int (1000) tLONGEST_TEXT)))
    (q_MOST_OCTETS : PySem.W.nsIn K mainGlobals "MOST_OCTETS" = some (some (.int (16384) tMOST_OCTETS)))
    (q__FIRST_CODE : PySem.W.nsIn K mainGlobals "_FIRST_CODE" = some (some (.int (32) t_FIRST_CODE)))
    (q__LAST_CODE : PySem.W.nsIn K mainGlobals "_LAST_CODE" = some (some (.int (126) t_LAST_CODE)))
    (q__PERCENT_CODE : PySem.W.nsIn K mainGlobals "_PERCENT_CODE" = some (some (.int (37) t_PERCENT_CODE)))
    (q__CHARACTERS : PySem.W.nsIn K mainGlobals "_CHARACTERS" = some (some (.str " !\"#$ &'()*+,-./0123456789:;<=>?@ABCDEFGHIJKLMNOPQRSTUVWXYZ[\\]^_`abcdefghijklmnopqrstuvwxyz{|}~" t_CHARACTERS)))
    (uBadMessage : PySem.W.nsIn K mainGlobals "BadMessage" = some (some (.ref CBadMessage))) (xBadMessage : PySem.W.excIn K CBadMessage [.type "ValueError", .type "Exception", .type "BaseException", .type "object"] "ValueError.__new__" = true) (keBadMessage : PySem.W.keepIn K (.ref CBadMessage) = true) (bxBadMessage : PySem.W.subIn K (.ref CBadMessage) (.type "BaseException") = some true) (txBadMessage : PySem.W.typeIn K (.ref CBadMessage) = some (.type "type")) (ixBadMessage : PySem.W.isClsIn K CBadMessage = true) (sxBadMessage : PySem.W.subIn K (.ref CBadMessage) (.ref CBadMessage) = some true)
    (uBadLength : PySem.W.nsIn K mainGlobals "BadLength" = some (some (.ref CBadLength))) (xBadLength : PySem.W.excIn K CBadLength [.type "ValueError", .type "Exception", .type "BaseException", .type "object"] "ValueError.__new__" = true) (keBadLength : PySem.W.keepIn K (.ref CBadLength) = true) (bxBadLength : PySem.W.subIn K (.ref CBadLength) (.type "BaseException") = some true) (txBadLength : PySem.W.typeIn K (.ref CBadLength) = some (.type "type")) (ixBadLength : PySem.W.isClsIn K CBadLength = true) (sxBadLength : PySem.W.subIn K (.ref CBadLength) (.ref CBadLength) = some true)
    (uBadText : PySem.W.nsIn K mainGlobals "BadText" = some (some (.ref CBadText))) (xBadText : PySem.W.excIn K CBadText [.type "ValueError", .type "Exception", .type "BaseException", .type "object"] "ValueError.__new__" = true) (keBadText : PySem.W.keepIn K (.ref CBadText) = true) (bxBadText : PySem.W.subIn K (.ref CBadText) (.type "BaseException") = some true) (txBadText : PySem.W.typeIn K (.ref CBadText) = some (.type "type")) (ixBadText : PySem.W.isClsIn K CBadText = true) (sxBadText : PySem.W.subIn K (.ref CBadText) (.ref CBadText) = some true)
    (uBadPadding : PySem.W.nsIn K mainGlobals "BadPadding" = some (some (.ref CBadPadding))) (xBadPadding : PySem.W.excIn K CBadPadding [.type "ValueError", .type "Exception", .type "BaseException", .type "object"] "ValueError.__new__" = true) (keBadPadding : PySem.W.keepIn K (.ref CBadPadding) = true) (bxBadPadding : PySem.W.subIn K (.ref CBadPadding) (.type "BaseException") = some true) (txBadPadding : PySem.W.typeIn K (.ref CBadPadding) = some (.type "type")) (ixBadPadding : PySem.W.isClsIn K CBadPadding = true) (sxBadPadding : PySem.W.subIn K (.ref CBadPadding) (.ref CBadPadding) = some true)
    (uObjectMissing : PySem.W.nsIn K mainGlobals "ObjectMissing" = some (some (.ref CObjectMissing))) (xObjectMissing : PySem.W.excIn K CObjectMissing [.type "ValueError", .type "Exception", .type "BaseException", .type "object"] "ValueError.__new__" = true) (keObjectMissing : PySem.W.keepIn K (.ref CObjectMissing) = true) (bxObjectMissing : PySem.W.subIn K (.ref CObjectMissing) (.type "BaseException") = some true) (txObjectMissing : PySem.W.typeIn K (.ref CObjectMissing) = some (.type "type")) (ixObjectMissing : PySem.W.isClsIn K CObjectMissing = true) (sxObjectMissing : PySem.W.subIn K (.ref CObjectMissing) (.ref CObjectMissing) = some true)
    : ∃ A : Adr, A.flaw = fa ∧ Txt K mg A ∧ (∀ (s : Shared) (v : Value), BindsTo s A.dlaw ⟨[v], []⟩ [("script", v)]) := by
  have e := hfa.symm.trans (PySem.W.mg_of X G a27)
  cases e
  have F1 := fun_mk (st := s_is_integer) l1 c1 k1
  have b1 := F1.binds (ps := ["value", "least", "greatest"]) fun _ _ _ _ _ _ us hl => match us, hl with | [_, _, _], _ => rfl
  have F2 := fun_mk (st := s_is_text) l2 c2 k2
  have b2 := F2.binds (ps := ["value"]) fun _ _ _ _ _ _ us hl => match us, hl with | [_], _ => rfl
  have F3 := fun_mk (st := s_number_octets) l3 c3 k3
  have b3 := F3.binds (ps := ["number", "count"]) fun _ _ _ _ _ _ us hl => match us, hl with | [_, _], _ => rfl
  have F4 := fun_mk (st := s_number_at) l4 c4 k4
  have b4 := F4.binds (ps := ["octets", "at", "count"]) fun _ _ _ _ _ _ us hl => match us, hl with | [_, _, _], _ => rfl
  have F5 := fun_mk (st := s_field_octets) l5 c5 k5
  have b5 := F5.binds (ps := ["kind", "value"]) fun _ _ _ _ _ _ us hl => match us, hl with | [_, _], _ => rfl
  have F6 := fun_mk (st := s_read_arguments) l6 c6 k6
  have b6 := F6.binds (ps := ["kinds", "octets"]) fun _ _ _ _ _ _ us hl => match us, hl with | [_, _], _ => rfl
  have F7 := fun_mk (st := s__is_code) l7 c7 k7
  have b7 := F7.binds (ps := ["code"]) fun _ _ _ _ _ _ us hl => match us, hl with | [_], _ => rfl
  have F8 := fun_mk (st := s__is_of) l8 c8 k8
  have b8 := F8.binds (ps := ["kind", "value"]) fun _ _ _ _ _ _ us hl => match us, hl with | [_, _], _ => rfl
  have F9 := fun_mk (st := s__are_octets) l9 c9 k9
  have b9 := F9.binds (ps := ["value"]) fun _ _ _ _ _ _ us hl => match us, hl with | [_], _ => rfl
  have F10 := fun_mk (st := s__is_bound) l10 c10 k10
  have b10 := F10.binds (ps := ["value"]) fun _ _ _ _ _ _ us hl => match us, hl with | [_], _ => rfl
  have F11 := fun_mk (st := s__text_octets) l11 c11 k11
  have b11 := F11.binds (ps := ["text"]) fun _ _ _ _ _ _ us hl => match us, hl with | [_], _ => rfl
  have F12 := fun_mk (st := s__padded) l12 c12 k12
  have b12 := F12.binds (ps := ["octets"]) fun _ _ _ _ _ _ us hl => match us, hl with | [_], _ => rfl
  have F13 := fun_mk (st := s__read) l13 c13 k13
  have b13 := F13.binds (ps := ["kind", "octets", "at"]) fun _ _ _ _ _ _ us hl => match us, hl with | [_, _, _], _ => rfl
  have F14 := fun_mk (st := s__read_number) l14 c14 k14
  have b14 := F14.binds (ps := ["octets", "at"]) fun _ _ _ _ _ _ us hl => match us, hl with | [_, _], _ => rfl
  have F15 := fun_mk (st := s__read_named) l15 c15 k15
  have b15 := F15.binds (ps := ["octets", "at"]) fun _ _ _ _ _ _ us hl => match us, hl with | [_, _], _ => rfl
  have F16 := fun_mk (st := s__read_text) l16 c16 k16
  have b16 := F16.binds (ps := ["octets", "at"]) fun _ _ _ _ _ _ us hl => match us, hl with | [_, _], _ => rfl
  have F17 := fun_mk (st := s__read_octets) l17 c17 k17
  have b17 := F17.binds (ps := ["octets", "at"]) fun _ _ _ _ _ _ us hl => match us, hl with | [_, _], _ => rfl
  have F18 := fun_mk (st := s__demand) l18 c18 k18
  have b18 := F18.binds (ps := ["octets", "end"]) fun _ _ _ _ _ _ us hl => match us, hl with | [_, _], _ => rfl
  have F19 := fun_mk (st := s__behind_padding) l19 c19 k19
  have b19 := F19.binds (ps := ["octets", "end"]) fun _ _ _ _ _ _ us hl => match us, hl with | [_, _], _ => rfl
  have F20 := fun_mk (st := s__law_cell) l20 c20 k20
  have b20 := F20.binds (ps := ["script", "k"]) fun _ _ _ _ _ _ us hl => match us, hl with | [_, _], _ => rfl
  have F21 := fun_mk (st := s__law_row) l21 c21 k21
  have b21 := F21.binds (ps := ["script", "k"]) fun _ _ _ _ _ _ us hl => match us, hl with | [_, _], _ => rfl
  have F22 := fun_mk (st := s__law_sign) l22 c22 k22
  have b22 := F22.binds (ps := ["digit"]) fun _ _ _ _ _ _ us hl => match us, hl with | [_], _ => rfl
  have F23 := fun_mk (st := s__law_text) l23 c23 k23
  have b23 := F23.binds (ps := ["row", "size"]) fun _ _ _ _ _ _ us hl => match us, hl with | [_, _], _ => rfl
  have F24 := fun_mk (st := s__law_octets) l24 c24 k24
  have b24 := F24.binds (ps := ["row", "size"]) fun _ _ _ _ _ _ us hl => match us, hl with | [_, _], _ => rfl
  have F25 := fun_mk (st := s__law_value) l25 c25 k25
  have b25 := F25.binds (ps := ["kind", "row"]) fun _ _ _ _ _ _ us hl => match us, hl with | [_, _], _ => rfl
  have F26 := fun_mk (st := s__law_kind) l26 c26 k26
  have b26 := F26.binds (ps := ["digit"]) fun _ _ _ _ _ _ us hl => match us, hl with | [_], _ => rfl
  have F27 := fun_mk (st := s_law) l27 c27 k27
  have b27 := F27.binds (ps := ["script"]) fun _ _ _ _ _ _ us hl => match us, hl with | [_], _ => rfl
  refine ⟨{ fis_integer := fis_integer, dis_integer := (PySem.W.fnOf "is_integer" "is_integer" (defArgs s_is_integer) (defBody s_is_integer) (defScope s_is_integer) .none kV1 dc1 pm1 an1 cd1 ct1), fis_text := fis_text, dis_text := (PySem.W.fnOf "is_text" "is_text" (defArgs s_is_text) (defBody s_is_text) (defScope s_is_text) .none kV2 dc2 pm2 an2 cd2 ct2), fnumber_octets := fnumber_octets, dnumber_octets := (PySem.W.fnOf "number_octets" "number_octets" (defArgs s_number_octets) (defBody s_number_octets) (defScope s_number_octets) .none kV3 dc3 pm3 an3 cd3 ct3), fnumber_at := fnumber_at, dnumber_at := (PySem.W.fnOf "number_at" "number_at" (defArgs s_number_at) (defBody s_number_at) (defScope s_number_at) .none kV4 dc4 pm4 an4 cd4 ct4), ffield_octets := ffield_octets, dfield_octets := (PySem.W.fnOf "field_octets" "field_octets" (defArgs s_field_octets) (defBody s_field_octets) (defScope s_field_octets) .none kV5 dc5 pm5 an5 cd5 ct5), fread_arguments := fread_arguments, dread_arguments := (PySem.W.fnOf "read_arguments" "read_arguments" (defArgs s_read_arguments) (defBody s_read_arguments) (defScope s_read_arguments) .none kV6 dc6 pm6 an6 cd6 ct6), f_is_code := f_is_code, d_is_code := (PySem.W.fnOf "_is_code" "_is_code" (defArgs s__is_code) (defBody s__is_code) (defScope s__is_code) .none kV7 dc7 pm7 an7 cd7 ct7), f_is_of := f_is_of, d_is_of := (PySem.W.fnOf "_is_of" "_is_of" (defArgs s__is_of) (defBody s__is_of) (defScope s__is_of) .none kV8 dc8 pm8 an8 cd8 ct8), f_are_octets := f_are_octets, d_are_octets := (PySem.W.fnOf "_are_octets" "_are_octets" (defArgs s__are_octets) (defBody s__are_octets) (defScope s__are_octets) .none kV9 dc9 pm9 an9 cd9 ct9), f_is_bound := f_is_bound, d_is_bound := (PySem.W.fnOf "_is_bound" "_is_bound" (defArgs s__is_bound) (defBody s__is_bound) (defScope s__is_bound) .none kV10 dc10 pm10 an10 cd10 ct10), f_text_octets := f_text_octets, d_text_octets := (PySem.W.fnOf "_text_octets" "_text_octets" (defArgs s__text_octets) (defBody s__text_octets) (defScope s__text_octets) .none kV11 dc11 pm11 an11 cd11 ct11), f_padded := f_padded, d_padded := (PySem.W.fnOf "_padded" "_padded" (defArgs s__padded) (defBody s__padded) (defScope s__padded) .none kV12 dc12 pm12 an12 cd12 ct12), f_read := f_read, d_read := (PySem.W.fnOf "_read" "_read" (defArgs s__read) (defBody s__read) (defScope s__read) .none kV13 dc13 pm13 an13 cd13 ct13), f_read_number := f_read_number, d_read_number := (PySem.W.fnOf "_read_number" "_read_number" (defArgs s__read_number) (defBody s__read_number) (defScope s__read_number) .none kV14 dc14 pm14 an14 cd14 ct14), f_read_named := f_read_named, d_read_named := (PySem.W.fnOf "_read_named" "_read_named" (defArgs s__read_named) (defBody s__read_named) (defScope s__read_named) .none kV15 dc15 pm15 an15 cd15 ct15), f_read_text := f_read_text, d_read_text := (PySem.W.fnOf "_read_text" "_read_text" (defArgs s__read_text) (defBody s__read_text) (defScope s__read_text) .none kV16 dc16 pm16 an16 cd16 ct16), f_read_octets := f_read_octets, d_read_octets := (PySem.W.fnOf "_read_octets" "_read_octets" (defArgs s__read_octets) (defBody s__read_octets) (defScope s__read_octets) .none kV17 dc17 pm17 an17 cd17 ct17), f_demand := f_demand, d_demand := (PySem.W.fnOf "_demand" "_demand" (defArgs s__demand) (defBody s__demand) (defScope s__demand) .none kV18 dc18 pm18 an18 cd18 ct18), f_behind_padding := f_behind_padding, d_behind_padding := (PySem.W.fnOf "_behind_padding" "_behind_padding" (defArgs s__behind_padding) (defBody s__behind_padding) (defScope s__behind_padding) .none kV19 dc19 pm19 an19 cd19 ct19), f_law_cell := f_law_cell, d_law_cell := (PySem.W.fnOf "_law_cell" "_law_cell" (defArgs s__law_cell) (defBody s__law_cell) (defScope s__law_cell) .none kV20 dc20 pm20 an20 cd20 ct20), f_law_row := f_law_row, d_law_row := (PySem.W.fnOf "_law_row" "_law_row" (defArgs s__law_row) (defBody s__law_row) (defScope s__law_row) .none kV21 dc21 pm21 an21 cd21 ct21), f_law_sign := f_law_sign, d_law_sign := (PySem.W.fnOf "_law_sign" "_law_sign" (defArgs s__law_sign) (defBody s__law_sign) (defScope s__law_sign) .none kV22 dc22 pm22 an22 cd22 ct22), f_law_text := f_law_text, d_law_text := (PySem.W.fnOf "_law_text" "_law_text" (defArgs s__law_text) (defBody s__law_text) (defScope s__law_text) .none kV23 dc23 pm23 an23 cd23 ct23), f_law_octets := f_law_octets, d_law_octets := (PySem.W.fnOf "_law_octets" "_law_octets" (defArgs s__law_octets) (defBody s__law_octets) (defScope s__law_octets) .none kV24 dc24 pm24 an24 cd24 ct24), f_law_value := f_law_value, d_law_value := (PySem.W.fnOf "_law_value" "_law_value" (defArgs s__law_value) (defBody s__law_value) (defScope s__law_value) .none kV25 dc25 pm25 an25 cd25 ct25), f_law_kind := f_law_kind, d_law_kind := (PySem.W.fnOf "_law_kind" "_law_kind" (defArgs s__law_kind) (defBody s__law_kind) (defScope s__law_kind) .none kV26 dc26 pm26 an26 cd26 ct26), flaw := fa, dlaw := (PySem.W.fnOf "law" "law" (defArgs s_law) (defBody s_law) (defScope s_law) .none kV27 dc27 pm27 an27 cd27 ct27), tGREATEST_NUMBER := tGREATEST_NUMBER, tLEAST_INT := tLEAST_INT, tGREATEST_INT := tGREATEST_INT, tLONGEST_TEXT := tLONGEST_TEXT, tMOST_OCTETS := tMOST_OCTETS, t_FIRST_CODE := t_FIRST_CODE, t_LAST_CODE := t_LAST_CODE, t_PERCENT_CODE := t_PERCENT_CODE, t_CHARACTERS := t_CHARACTERS, CBadMessage := CBadMessage, CBadLength := CBadLength, CBadText := CBadText, CBadPadding := CBadPadding, CObjectMissing := CObjectMissing }, rfl, { Fis_integer := F1, bis_integer := b1, gis_integer := PySem.W.mg_of X G a1, kis_integer := k1, Fis_text := F2, bis_text := b2, gis_text := PySem.W.mg_of X G a2, kis_text := k2, Fnumber_octets := F3, bnumber_octets := b3, gnumber_octets := PySem.W.mg_of X G a3, knumber_octets := k3, Fnumber_at := F4, bnumber_at := b4, gnumber_at := PySem.W.mg_of X G a4, knumber_at := k4, Ffield_octets := F5, bfield_octets := b5, gfield_octets := PySem.W.mg_of X G a5, kfield_octets := k5, Fread_arguments := F6, bread_arguments := b6, gread_arguments := PySem.W.mg_of X G a6, kread_arguments := k6, F_is_code := F7, b_is_code := b7, g_is_code := PySem.W.mg_of X G a7, k_is_code := k7, F_is_of := F8, b_is_of := b8, g_is_of := PySem.W.mg_of X G a8, k_is_of := k8, F_are_octets := F9, b_are_octets := b9, g_are_octets := PySem.W.mg_of X G a9, k_are_octets := k9, F_is_bound := F10, b_is_bound := b10, g_is_bound := PySem.W.mg_of X G a10, k_is_bound := k10, F_text_octets := F11, b_text_octets := b11, g_text_octets := PySem.W.mg_of X G a11, k_text_octets := k11, F_padded := F12, b_padded := b12, g_padded := PySem.W.mg_of X G a12, k_padded := k12, F_read := F13, b_read := b13, g_read := PySem.W.mg_of X G a13, k_read := k13, F_read_number := F14, b_read_number := b14, g_read_number := PySem.W.mg_of X G a14, k_read_number := k14, F_read_named := F15, b_read_named := b15, g_read_named := PySem.W.mg_of X G a15, k_read_named := k15, F_read_text := F16, b_read_text := b16, g_read_text := PySem.W.mg_of X G a16, k_read_text := k16, F_read_octets := F17, b_read_octets := b17, g_read_octets := PySem.W.mg_of X G a17, k_read_octets := k17, F_demand := F18, b_demand := b18, g_demand := PySem.W.mg_of X G a18, k_demand := k18, F_behind_padding := F19, b_behind_padding := b19, g_behind_padding := PySem.W.mg_of X G a19, k_behind_padding := k19, F_law_cell := F20, b_law_cell := b20, g_law_cell := PySem.W.mg_of X G a20, k_law_cell := k20, F_law_row := F21, b_law_row := b21, g_law_row := PySem.W.mg_of X G a21, k_law_row := k21, F_law_sign := F22, b_law_sign := b22, g_law_sign := PySem.W.mg_of X G a22, k_law_sign := k22, F_law_text := F23, b_law_text := b23, g_law_text := PySem.W.mg_of X G a23, k_law_text := k23, F_law_octets := F24, b_law_octets := b24, g_law_octets := PySem.W.mg_of X G a24, k_law_octets := k24, F_law_value := F25, b_law_value := b25, g_law_value := PySem.W.mg_of X G a25, k_law_value := k25, F_law_kind := F26, b_law_kind := b26, g_law_kind := PySem.W.mg_of X G a26, k_law_kind := k26, Flaw := F27, blaw := b27, glaw := PySem.W.mg_of X G a27, klaw := k27, all := PySem.W.mg_none_of X G z_all, any := PySem.W.mg_none_of X G z_any, bool := PySem.W.mg_none_of X G z_bool, int := PySem.W.mg_none_of X G z_int, isinstance := PySem.W.mg_none_of X G z_isinstance, len := PySem.W.mg_none_of X G z_len, list := PySem.W.mg_none_of X G z_list, max := PySem.W.mg_none_of X G z_max, min := PySem.W.mg_none_of X G z_min, ord := PySem.W.mg_none_of X G z_ord, range := PySem.W.mg_none_of X G z_range, str := PySem.W.mg_none_of X G z_str, sum := PySem.W.mg_none_of X G z_sum, tuple := PySem.W.mg_none_of X G z_tuple, gGREATEST_NUMBER := PySem.W.mg_of X G q_GREATEST_NUMBER, gLEAST_INT := PySem.W.mg_of X G q_LEAST_INT, gGREATEST_INT := PySem.W.mg_of X G q_GREATEST_INT, gLONGEST_TEXT := PySem.W.mg_of X G q_LONGEST_TEXT, gMOST_OCTETS := PySem.W.mg_of X G q_MOST_OCTETS, g_FIRST_CODE := PySem.W.mg_of X G q__FIRST_CODE, g_LAST_CODE := PySem.W.mg_of X G q__LAST_CODE, g_PERCENT_CODE := PySem.W.mg_of X G q__PERCENT_CODE, g_CHARACTERS := PySem.W.mg_of X G q__CHARACTERS, gBadMessage := PySem.W.mg_of X G uBadMessage, xBadMessage := xBadMessage, kBadMessage := keBadMessage, bxBadMessage := bxBadMessage, txBadMessage := txBadMessage, exBadMessage := exm_self bxBadMessage ixBadMessage txBadMessage sxBadMessage, gBadLength := PySem.W.mg_of X G uBadLength, xBadLength := xBadLength, kBadLength := keBadLength, bxBadLength := bxBadLength, txBadLength := txBadLength, exBadLength := exm_self bxBadLength ixBadLength txBadLength sxBadLength, gBadText := PySem.W.mg_of X G uBadText, xBadText := xBadText, kBadText := keBadText, bxBadText := bxBadText, txBadText := txBadText, exBadText := exm_self bxBadText ixBadText txBadText sxBadText, gBadPadding := PySem.W.mg_of X G uBadPadding, xBadPadding := xBadPadding, kBadPadding := keBadPadding, bxBadPadding := bxBadPadding, txBadPadding := txBadPadding, exBadPadding := exm_self bxBadPadding ixBadPadding txBadPadding sxBadPadding, gObjectMissing := PySem.W.mg_of X G uObjectMissing, xObjectMissing := xObjectMissing, kObjectMissing := keObjectMissing, bxObjectMissing := bxObjectMissing, txObjectMissing := txObjectMissing, exObjectMissing := exm_self bxObjectMissing ixObjectMissing txObjectMissing sxObjectMissing }, fun s v => .of_eq rfl⟩
theorem walk {l : PySem.W.OpenLaw} {q : Program} {loose : List Str} {XP : (Str → Option Value) → Heap → Prop} {YP : World → Heap → Prop} {d : DefRec} {K : Params → PySem.W.Frag} (hn : l.most = some 63) (hdf : d.params.defaults = [])
    (hY : ∀ (w : World) (h : Heap), YP w h → (K w.params).In h)
    (F : ∀ (w : World) (mg : Str → Option Value) (fa : Addr) (h : Heap), (K w.params).In h → h.Ns mainGlobals mg → mg d.name = some (.ref fa) →
      ∃ A : Adr, A.flaw = fa ∧ Txt (K w.params) mg A ∧ (∀ (s : Shared) (v : Value), BindsTo s A.dlaw ⟨[v], []⟩ [("script", v)])) :
    PySem.W.WalkO q loose XP YP l.row.toRowW d [] (fun f vs => PySem.call f vs) :=
  L2.walk_of (n := 63) (k := 7) (x := "script") (CX := fun _ => CX0) (sp := fun w => sp_law (K w.params)) hn (by decide) hdf ⟨rfl, by decide, by decide⟩ hY (fun w mg fa h X G hfa => by
    obtain ⟨A, rfl, T, b⟩ := F w mg fa h X G hfa
    exact ⟨A.dlaw, b, fun base _ _ => ok_law T⟩) (fun _ _ a ns hl _ hS => ⟨a, ns, rfl, hS, hl, fun _ => rfl⟩) fun _ _ _ _ _ z => z
end My
open PySem PySem.W PyProof.Rows
set_option maxRecDepth 100000 in
set_option maxHeartbeats 0 in
theorem PySem.Challenge.cw_sillwatch_k04_arguments_read_back_holds : PySem.Challenge.rw_sillwatch_k04_arguments_read_back.Holds := by
  w_on; o_law; k_head; (case hw => w_witness2)
  k_fill
  refine My.walk (l := PySem.Challenge.rw_sillwatch_k04_arguments_read_back) rfl rfl (fun w h Y => PySem.W.kIn_of Y) ?F
  case F =>
    intro w mg fa h KX G hmg
    refine' My.all_mk KX G hmg ?a1 ?l1 ?c1 ?k1 ?a2 ?l2 ?c2 ?k2 ?a3 ?l3 ?c3 ?k3 ?a4 ?l4 ?c4 ?k4 ?a5 ?l5 ?c5 ?k5 ?a6 ?l6 ?c6 ?k6 ?a7 ?l7 ?c7 ?k7 ?a8 ?l8 ?c8 ?k8 ?a9 ?l9 ?c9 ?k9 ?a10 ?l10 ?c10 ?k10 ?a11 ?l11 ?c11 ?k11 ?a12 ?l12 ?c12 ?k12 ?a13 ?l13 ?c13 ?k13 ?a14 ?l14 ?c14 ?k14 ?a15 ?l15 ?c15 ?k15 ?a16 ?l16 ?c16 ?k16 ?a17 ?l17 ?c17 ?k17 ?a18 ?l18 ?c18 ?k18 ?a19 ?l19 ?c19 ?k19 ?a20 ?l20 ?c20 ?k20 ?a21 ?l21 ?c21 ?k21 ?a22 ?l22 ?c22 ?k22 ?a23 ?l23 ?c23 ?k23 ?a24 ?l24 ?c24 ?k24 ?a25 ?l25 ?c25 ?k25 ?a26 ?l26 ?c26 ?k26 ?a27 ?l27 ?c27 ?k27 ?z_all ?z_any ?z_bool ?z_int ?z_isinstance ?z_len ?z_list ?z_max ?z_min ?z_ord ?z_range ?z_str ?z_sum ?z_tuple ?q_GREATEST_NUMBER ?q_LEAST_INT ?q_GREATEST_INT ?q_LONGEST_TEXT ?q_MOST_OCTETS ?q__FIRST_CODE ?q__LAST_CODE ?q__PERCENT_CODE ?q__CHARACTERS ?uBadMessage ?xBadMessage ?keBadMessage ?bxBadMessage ?txBadMessage ?ixBadMessage ?sxBadMessage ?uBadLength ?xBadLength ?keBadLength ?bxBadLength ?txBadLength ?ixBadLength ?sxBadLength ?uBadText ?xBadText ?keBadText ?bxBadText ?txBadText ?ixBadText ?sxBadText ?uBadPadding ?xBadPadding ?keBadPadding ?bxBadPadding ?txBadPadding ?ixBadPadding ?sxBadPadding ?uObjectMissing ?xObjectMissing ?keObjectMissing ?bxObjectMissing ?txObjectMissing ?ixObjectMissing ?sxObjectMissing
    (case uBadMessage => k_is)
    (case uBadLength => k_is)
    (case uBadText => k_is)
    (case uBadPadding => k_is)
    (case uObjectMissing => k_is)
    (case a1 => k_is)
    (case l1 => k_is)
    (case c1 => k_is)
    (case k1 => k_is)
    (case a2 => k_is)
    (case l2 => k_is)
    (case c2 => k_is)
    (case k2 => k_is)
    (case a3 => k_is)
    (case l3 => k_is)
    (case c3 => k_is)
    (case k3 => k_is)
    (case a4 => k_is)
    (case l4 => k_is)
    (case c4 => k_is)
    (case k4 => k_is)
    (case a5 => k_is)
    (case l5 => k_is)
    (case c5 => k_is)
    (case k5 => k_is)
    (case a6 => k_is)
    (case l6 => k_is)
    (case c6 => k_is)
    (case k6 => k_is)
    (case a7 => k_is)
    (case l7 => k_is)
    (case c7 => k_is)
    (case k7 => k_is)
    (case a8 => k_is)
    (case l8 => k_is)
    (case c8 => k_is)
    (case k8 => k_is)
    (case a9 => k_is)
    (case l9 => k_is)
    (case c9 => k_is)
    (case k9 => k_is)
    (case a10 => k_is)
    (case l10 => k_is)
    (case c10 => k_is)
    (case k10 => k_is)
    (case a11 => k_is)
    (case l11 => k_is)
    (case c11 => k_is)
    (case k11 => k_is)
    (case a12 => k_is)
    (case l12 => k_is)
    (case c12 => k_is)
    (case k12 => k_is)
    (case a13 => k_is)
    (case l13 => k_is)
    (case c13 => k_is)
    (case k13 => k_is)
    (case a14 => k_is)
    (case l14 => k_is)
    (case c14 => k_is)
    (case k14 => k_is)
    (case a15 => k_is)
    (case l15 => k_is)
    (case c15 => k_is)
    (case k15 => k_is)
    (case a16 => k_is)
    (case l16 => k_is)
    (case c16 => k_is)
    (case k16 => k_is)
    (case a17 => k_is)
    (case l17 => k_is)
    (case c17 => k_is)
    (case k17 => k_is)
    (case a18 => k_is)
    (case l18 => k_is)
    (case c18 => k_is)
    (case k18 => k_is)
    (case a19 => k_is)
    (case l19 => k_is)
    (case c19 => k_is)
    (case k19 => k_is)
    (case a20 => k_is)
    (case l20 => k_is)
    (case c20 => k_is)
    (case k20 => k_is)
    (case a21 => k_is)
    (case l21 => k_is)
    (case c21 => k_is)
    (case k21 => k_is)
    (case a22 => k_is)
    (case l22 => k_is)
    (case c22 => k_is)
    (case k22 => k_is)
    (case a23 => k_is)
    (case l23 => k_is)
    (case c23 => k_is)
    (case k23 => k_is)
    (case a24 => k_is)
    (case l24 => k_is)
    (case c24 => k_is)
    (case k24 => k_is)
    (case a25 => k_is)
    (case l25 => k_is)
    (case c25 => k_is)
    (case k25 => k_is)
    (case a26 => k_is)
    (case l26 => k_is)
    (case c26 => k_is)
    (case k26 => k_is)
    (case a27 => k_is)
    (case l27 => k_is)
    (case c27 => k_is)
    (case k27 => k_is)
    (case z_all => k_is)
    (case z_any => k_is)
    (case z_bool => k_is)
    (case z_int => k_is)
    (case z_isinstance => k_is)
    (case z_len => k_is)
    (case z_list => k_is)
    (case z_max => k_is)
    (case z_min => k_is)
    (case z_ord => k_is)
    (case z_range => k_is)
    (case z_str => k_is)
    (case z_sum => k_is)
    (case z_tuple => k_is)
    (case q_GREATEST_NUMBER => k_is)
    (case q_LEAST_INT => k_is)
    (case q_GREATEST_INT => k_is)
    (case q_LONGEST_TEXT => k_is)
    (case q_MOST_OCTETS => k_is)
    (case q__FIRST_CODE => k_is)
    (case q__LAST_CODE => k_is)
    (case q__PERCENT_CODE => k_is)
    (case q__CHARACTERS => k_is)
    (case xBadMessage => k_exc)
    (case keBadMessage => k_is)
    (case bxBadMessage => k_is)
    (case txBadMessage => k_is)
    (case ixBadMessage => k_is)
    (case sxBadMessage => first | rfl | k_is)
    (case xBadLength => k_exc)
    (case keBadLength => k_is)
    (case bxBadLength => k_is)
    (case txBadLength => k_is)
    (case ixBadLength => k_is)
    (case sxBadLength => first | rfl | k_is)
    (case xBadText => k_exc)
    (case keBadText => k_is)
    (case bxBadText => k_is)
    (case txBadText => k_is)
    (case ixBadText => k_is)
    (case sxBadText => first | rfl | k_is)
    (case xBadPadding => k_exc)
    (case keBadPadding => k_is)
    (case bxBadPadding => k_is)
    (case txBadPadding => k_is)
    (case ixBadPadding => k_is)
    (case sxBadPadding => first | rfl | k_is)
    (case xObjectMissing => k_exc)
    (case keObjectMissing => k_is)
    (case bxObjectMissing => k_is)
    (case txObjectMissing => k_is)
    (case ixObjectMissing => k_is)
    (case sxObjectMissing => first | rfl | k_is)
