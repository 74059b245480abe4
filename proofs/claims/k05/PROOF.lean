import PyProof.Rows.All
import Wide.All
import OpenK.AllK
import Wide.FinOn
import HandS.ForMost
import HandS.Exc
import HandS.TryOnly
import HandS.ExcOwn
import HandS.WordsExc
import HandS.IsInst
import HandS.Wide
import HandS.Flow
import HandS.More
import HandS.Codes
import HandS.Walk
import HandS.TupLe
import HandS.WordsDict
import HandS.Conv
import HandS.TryMany
import HandS.ExcIs
import KE.KBits
import HandS.CallLocal
import HandS.Strs
import HandS.SetFor
import HandS.Set
import HandS.Property
import PySem.Challenge.RW_sillwatch_k05_arguments_refused
set_option Elab.async false
set_option linter.all false
set_option maxRecDepth 100000
set_option maxHeartbeats 4000000
namespace My
open PySem L2
def topS (i : Nat) : Stmt := PySem.Challenge.pw_sillwatch_k05_arguments_refused.main.body.getD i (.Pass ⟨0, 0, 0, 0⟩)
abbrev s_is_integer : Stmt := topS 18
abbrev s_is_text : Stmt := topS 19
abbrev s_number_octets : Stmt := topS 20
abbrev s_number_at : Stmt := topS 21
abbrev s_field_octets : Stmt := topS 22
abbrev s_read_arguments : Stmt := topS 23
abbrev s__is_code : Stmt := topS 24
abbrev s__is_of : Stmt := topS 25
abbrev s__are_octets : Stmt := topS 26
abbrev s__is_bound : Stmt := topS 27
abbrev s__text_octets : Stmt := topS 28
abbrev s__padded : Stmt := topS 29
abbrev s__read : Stmt := topS 30
abbrev s__read_number : Stmt := topS 31
abbrev s__read_named : Stmt := topS 32
abbrev s__read_text : Stmt := topS 33
abbrev s__read_octets : Stmt := topS 34
abbrev s__demand : Stmt := topS 35
abbrev s__behind_padding : Stmt := topS 36
abbrev s__law_cell : Stmt := topS 38
abbrev s__law_row : Stmt := topS 39
abbrev s__law_sign : Stmt := topS 40
abbrev s__law_text : Stmt := topS 41
abbrev s__law_octets : Stmt := topS 42
abbrev s__law_value : Stmt := topS 43
abbrev s__law_kind : Stmt := topS 44
abbrev s__law_told : Stmt := topS 45
abbrev s__law_changed : Stmt := topS 46
abbrev s__law_four : Stmt := topS 47
abbrev s__law_case : Stmt := topS 48
abbrev s_law : Stmt := topS 49
structure Adr where
  fis_integer : Addr
  dis_integer : FuncData
  fis_text : Addr
  dis_text : FuncData
  fnumber_octets : Addr
  dnumber_octets : FuncData
  fnumber_at : Addr
  dnumber_at : FuncData
  ffield_octets : Addr
  dfield_octets : FuncData
  fread_arguments : Addr
  dread_arguments : FuncData
  f_is_code : Addr
  d_is_code : FuncData
  f_is_of : Addr
  d_is_of : FuncData
  f_are_octets : Addr
  d_are_octets : FuncData
  f_is_bound : Addr
  d_is_bound : FuncData
  f_text_octets : Addr
  d_text_octets : FuncData
  f_padded : Addr
  d_padded : FuncData
  f_read : Addr
  d_read : FuncData
  f_read_number : Addr
  d_read_number : FuncData
  f_read_named : Addr
  d_read_named : FuncData
  f_read_text : Addr
  d_read_text : FuncData
  f_read_octets : Addr
  d_read_octets : FuncData
  f_demand : Addr
  d_demand : FuncData
  f_behind_padding : Addr
  d_behind_padding : FuncData
  f_law_cell : Addr
  d_law_cell : FuncData
  f_law_row : Addr
  d_law_row : FuncData
  f_law_sign : Addr
  d_law_sign : FuncData
  f_law_text : Addr
  d_law_text : FuncData
  f_law_octets : Addr
  d_law_octets : FuncData
  f_law_value : Addr
  d_law_value : FuncData
  f_law_kind : Addr
  d_law_kind : FuncData
  f_law_told : Addr
  d_law_told : FuncData
  f_law_changed : Addr
  d_law_changed : FuncData
  f_law_four : Addr
  d_law_four : FuncData
  f_law_case : Addr
  d_law_case : FuncData
  flaw : Addr
  dlaw : FuncData
  tGREATEST_NUMBER : Tok
  tLEAST_INT : Tok
  tGREATEST_INT : Tok
  tLONGEST_TEXT : Tok
  tMOST_OCTETS : Tok
  t_FIRST_CODE : Tok
  t_LAST_CODE : Tok
  t_PERCENT_CODE : Tok
  t_CHARACTERS : Tok
  CBadMessage : Addr
  CBadArguments : Addr
  CBadLength : Addr
  CBadText : Addr
  CBadPadding : Addr
  CObjectMissing : Addr
structure Txt (K : PySem.W.Frag) (mg : Str → Option Value) (A : Adr) : Prop where
  Fis_integer : Fun K "is_integer" "is_integer" s_is_integer A.fis_integer A.dis_integer
  bis_integer : Binds K A.dis_integer ["value", "least", "greatest"] []
  gis_integer : mg "is_integer" = some (.ref A.fis_integer)
  kis_integer : PySem.W.keepIn K (.ref A.fis_integer) = true
  Fis_text : Fun K "is_text" "is_text" s_is_text A.fis_text A.dis_text
  bis_text : Binds K A.dis_text ["value"] []
  gis_text : mg "is_text" = some (.ref A.fis_text)
  kis_text : PySem.W.keepIn K (.ref A.fis_text) = true
  Fnumber_octets : Fun K "number_octets" "number_octets" s_number_octets A.fnumber_octets A.dnumber_octets
  bnumber_octets : Binds K A.dnumber_octets ["number", "count"] []
  gnumber_octets : mg "number_octets" = some (.ref A.fnumber_octets)
  knumber_octets : PySem.W.keepIn K (.ref A.fnumber_octets) = true
  Fnumber_at : Fun K "number_at" "number_at" s_number_at A.fnumber_at A.dnumber_at
  bnumber_at : Binds K A.dnumber_at ["octets", "at", "count"] []
  gnumber_at : mg "number_at" = some (.ref A.fnumber_at)
  knumber_at : PySem.W.keepIn K (.ref A.fnumber_at) = true
  Ffield_octets : Fun K "field_octets" "field_octets" s_field_octets A.ffield_octets A.dfield_octets
  bfield_octets : Binds K A.dfield_octets ["kind", "value"] []
  gfield_octets : mg "field_octets" = some (.ref A.ffield_octets)
  kfield_octets : PySem.W.keepIn K (.ref A.ffield_octets) = true
  Fread_arguments : Fun K "read_arguments" "read_arguments" s_read_arguments A.fread_arguments A.dread_arguments
  bread_arguments : Binds K A.dread_arguments ["kinds", "octets"] []
  gread_arguments : mg "read_arguments" = some (.ref A.fread_arguments)
  kread_arguments : PySem.W.keepIn K (.ref A.fread_arguments) = true
  F_is_code : Fun K "_is_code" "_is_code" s__is_code A.f_is_code A.d_is_code
  b_is_code : Binds K A.d_is_code ["code"] []
  g_is_code : mg "_is_code" = some (.ref A.f_is_code)
  k_is_code : PySem.W.keepIn K (.ref A.f_is_code) = true
  F_is_of : Fun K "_is_of" "_is_of" s__is_of A.f_is_of A.d_is_of
  b_is_of : Binds K A.d_is_of ["kind", "value"] []
  g_is_of : mg "_is_of" = some (.ref A.f_is_of)
  k_is_of : PySem.W.keepIn K (.ref A.f_is_of) = true
  F_are_octets : Fun K "_are_octets" "_are_octets" s__are_octets A.f_are_octets A.d_are_octets
  b_are_octets : Binds K A.d_are_octets ["value"] []
  g_are_octets : mg "_are_octets" = some (.ref A.f_are_octets)
  k_are_octets : PySem.W.keepIn K (.ref A.f_are_octets) = true
  F_is_bound : Fun K "_is_bound" "_is_bound" s__is_bound A.f_is_bound A.d_is_bound
  b_is_bound : Binds K A.d_is_bound ["value"] []
  g_is_bound : mg "_is_bound" = some (.ref A.f_is_bound)
  k_is_bound : PySem.W.keepIn K (.ref A.f_is_bound) = true
  F_text_octets : Fun K "_text_octets" "_text_octets" s__text_octets A.f_text_octets A.d_text_octets
  b_text_octets : Binds K A.d_text_octets ["text"] []
  g_text_octets : mg "_text_octets" = some (.ref A.f_text_octets)
  k_text_octets : PySem.W.keepIn K (.ref A.f_text_octets) = true
  F_padded : Fun K "_padded" "_padded" s__padded A.f_padded A.d_padded
  b_padded : Binds K A.d_padded ["octets"] []
  g_padded : mg "_padded" = some (.ref A.f_padded)
  k_padded : PySem.W.keepIn K (.ref A.f_padded) = true
  F_read : Fun K "_read" "_read" s__read A.f_read A.d_read
  b_read : Binds K A.d_read ["kind", "octets", "at"] []
  g_read : mg "_read" = some (.ref A.f_read)
  k_read : PySem.W.keepIn K (.ref A.f_read) = true
  F_read_number : Fun K "_read_number" "_read_number" s__read_number A.f_read_number A.d_read_number
  b_read_number : Binds K A.d_read_number ["octets", "at"] []
  g_read_number : mg "_read_number" = some (.ref A.f_read_number)
  k_read_number : PySem.W.keepIn K (.ref A.f_read_number) = true
  F_read_named : Fun K "_read_named" "_read_named" s__read_named A.f_read_named A.d_read_named
  b_read_named : Binds K A.d_read_named ["octets", "at"] []
  g_read_named : mg "_read_named" = some (.ref A.f_read_named)
  k_read_named : PySem.W.keepIn K (.ref A.f_read_named) = true
  F_read_text : Fun K "_read_text" "_read_text" s__read_text A.f_read_text A.d_read_text
  b_read_text : Binds K A.d_read_text ["octets", "at"] []
  g_read_text : mg "_read_text" = some (.ref A.f_read_text)
  k_read_text : PySem.W.keepIn K (.ref A.f_read_text) = true
  F_read_octets : Fun K "_read_octets" "_read_octets" s__read_octets A.f_read_octets A.d_read_octets
  b_read_octets : Binds K A.d_read_octets ["octets", "at"] []
  g_read_octets : mg "_read_octets" = some (.ref A.f_read_octets)
  k_read_octets : PySem.W.keepIn K (.ref A.f_read_octets) = true
  F_demand : Fun K "_demand" "_demand" s__demand A.f_demand A.d_demand
  b_demand : Binds K A.d_demand ["octets", "end"] []
  g_demand : mg "_demand" = some (.ref A.f_demand)
  k_demand : PySem.W.keepIn K (.ref A.f_demand) = true
  F_behind_padding : Fun K "_behind_padding" "_behind_padding" s__behind_padding A.f_behind_padding A.d_behind_padding
  b_behind_padding : Binds K A.d_behind_padding ["octets", "end"] []
  g_behind_padding : mg "_behind_padding" = some (.ref A.f_behind_padding)
  k_behind_padding : PySem.W.keepIn K (.ref A.f_behind_padding) = true
  F_law_cell : Fun K "_law_cell" "_law_cell" s__law_cell A.f_law_cell A.d_law_cell
  b_law_cell : Binds K A.d_law_cell ["script", "k"] []
  g_law_cell : mg "_law_cell" = some (.ref A.f_law_cell)
  k_law_cell : PySem.W.keepIn K (.ref A.f_law_cell) = true
  F_law_row : Fun K "_law_row" "_law_row" s__law_row A.f_law_row A.d_law_row
  b_law_row : Binds K A.d_law_row ["script", "k"] []
  g_law_row : mg "_law_row" = some (.ref A.f_law_row)
  k_law_row : PySem.W.keepIn K (.ref A.f_law_row) = true
  F_law_sign : Fun K "_law_sign" "_law_sign" s__law_sign A.f_law_sign A.d_law_sign
  b_law_sign : Binds K A.d_law_sign ["digit"] []
  g_law_sign : mg "_law_sign" = some (.ref A.f_law_sign)
  k_law_sign : PySem.W.keepIn K (.ref A.f_law_sign) = true
  F_law_text : Fun K "_law_text" "_law_text" s__law_text A.f_law_text A.d_law_text
  b_law_text : Binds K A.d_law_text ["row", "size"] []
  g_law_text : mg "_law_text" = some (.ref A.f_law_text)
  k_law_text : PySem.W.keepIn K (.ref A.f_law_text) = true
  F_law_octets : Fun K "_law_octets" "_law_octets" s__law_octets A.f_law_octets A.d_law_octets
  b_law_octets : Binds K A.d_law_octets ["row", "size"] []
  g_law_octets : mg "_law_octets" = some (.ref A.f_law_octets)
  k_law_octets : PySem.W.keepIn K (.ref A.f_law_octets) = true
  F_law_value : Fun K "_law_value" "_law_value" s__law_value A.f_law_value A.d_law_value
  b_law_value : Binds K A.d_law_value ["kind", "row"] []
  g_law_value : mg "_law_value" = some (.ref A.f_law_value)
  k_law_value : PySem.W.keepIn K (.ref A.f_law_value) = true
  F_law_kind : Fun K "_law_kind" "_law_kind" s__law_kind A.f_law_kind A.d_law_kind
  b_law_kind : Binds K A.d_law_kind ["digit"] []
  g_law_kind : mg "_law_kind" = some (.ref A.f_law_kind)
  k_law_kind : PySem.W.keepIn K (.ref A.f_law_kind) = true
  F_law_told : Fun K "_law_told" "_law_told" s__law_told A.f_law_told A.d_law_told
  b_law_told : Binds K A.d_law_told ["kinds", "octets"] []
  g_law_told : mg "_law_told" = some (.ref A.f_law_told)
  k_law_told : PySem.W.keepIn K (.ref A.f_law_told) = true
  F_law_changed : Fun K "_law_changed" "_law_changed" s__law_changed A.f_law_changed A.d_law_changed
  b_law_changed : Binds K A.d_law_changed ["octets", "place", "octet"] []
  g_law_changed : mg "_law_changed" = some (.ref A.f_law_changed)
  k_law_changed : PySem.W.keepIn K (.ref A.f_law_changed) = true
  F_law_four : Fun K "_law_four" "_law_four" s__law_four A.f_law_four A.d_law_four
  b_law_four : Binds K A.d_law_four ["value"] []
  g_law_four : mg "_law_four" = some (.ref A.f_law_four)
  k_law_four : PySem.W.keepIn K (.ref A.f_law_four) = true
  F_law_case : Fun K "_law_case" "_law_case" s__law_case A.f_law_case A.d_law_case
  b_law_case : Binds K A.d_law_case ["row", "before"] []
  g_law_case : mg "_law_case" = some (.ref A.f_law_case)
  k_law_case : PySem.W.keepIn K (.ref A.f_law_case) = true
  Flaw : Fun K "law" "law" s_law A.flaw A.dlaw
  blaw : Binds K A.dlaw ["script"] []
  glaw : mg "law" = some (.ref A.flaw)
  klaw : PySem.W.keepIn K (.ref A.flaw) = true
  all : mg "all" = none
  any : mg "any" = none
  bool : mg "bool" = none
  int : mg "int" = none
  isinstance : mg "isinstance" = none
  len : mg "len" = none
  list : mg "list" = none
  max : mg "max" = none
  min : mg "min" = none
  ord : mg "ord" = none
  range : mg "range" = none
  str : mg "str" = none
  sum : mg "sum" = none
  tuple : mg "tuple" = none
  gGREATEST_NUMBER : mg "GREATEST_NUMBER" = some (.int (4294967295) A.tGREATEST_NUMBER)
  gLEAST_INT : mg "LEAST_INT" = some (.int (-2147483648) A.tLEAST_INT)
  gGREATEST_INT : mg "GREATEST_INT" = some (.int (2147483647) A.tGREATEST_INT)
  gLONGEST_TEXT : mg "LONGEST_TEXT" = some (.int (1000) A.tLONGEST_TEXT)
  gMOST_OCTETS : mg "MOST_OCTETS" = some (.int (16384) A.tMOST_OCTETS)
  g_FIRST_CODE : mg "_FIRST_CODE" = some (.int (32) A.t_FIRST_CODE)
  g_LAST_CODE : mg "_LAST_CODE" = some (.int (126) A.t_LAST_CODE)
  g_PERCENT_CODE : mg "_PERCENT_CODE" = some (.int (37) A.t_PERCENT_CODE)
  g_CHARACTERS : mg "_CHARACTERS" = some (.str " !\"#$ &'()*+,-./0123456789:;<=>?@ABCDEFGHIJKLMNOPQRSTUVWXYZ[\\]^_`abcdefghijklmnopqrstuvwxyz{|}~" A.t_CHARACTERS)
  gBadMessage : mg "BadMessage" = some (.ref A.CBadMessage)
  xBadMessage : PySem.W.excIn K A.CBadMessage [.type "ValueError", .type "Exception", .type "BaseException", .type "object"] "ValueError.__new__" = true
  kBadMessage : PySem.W.keepIn K (.ref A.CBadMessage) = true
  bxBadMessage : PySem.W.subIn K (.ref A.CBadMessage) (.type "BaseException") = some true
  txBadMessage : PySem.W.typeIn K (.ref A.CBadMessage) = some (.type "type")
  exBadMessage : PySem.W.exmOne K (.ref A.CBadMessage) (.ref A.CBadMessage) = some true
  gBadArguments : mg "BadArguments" = some (.ref A.CBadArguments)
  xBadArguments : PySem.W.excIn K A.CBadArguments [.type "ValueError", .type "Exception", .type "BaseException", .type "object"] "ValueError.__new__" = true
  kBadArguments : PySem.W.keepIn K (.ref A.CBadArguments) = true
  bxBadArguments : PySem.W.subIn K (.ref A.CBadArguments) (.type "BaseException") = some true
  txBadArguments : PySem.W.typeIn K (.ref A.CBadArguments) = some (.type "type")
  exBadArguments : PySem.W.exmOne K (.ref A.CBadArguments) (.ref A.CBadArguments) = some true
  gBadLength : mg "BadLength" = some (.ref A.CBadLength)
  xBadLength : PySem.W.excIn K A.CBadLength [.type "ValueError", .type "Exception", .type "BaseException", .type "object"] "ValueError.__new__" = true
  kBadLength : PySem.W.keepIn K (.ref A.CBadLength) = true
  bxBadLength : PySem.W.subIn K (.ref A.CBadLength) (.type "BaseException") = some true
  txBadLength : PySem.W.typeIn K (.ref A.CBadLength) = some (.type "type")
  exBadLength : PySem.W.exmOne K (.ref A.CBadLength) (.ref A.CBadLength) = some true
  gBadText : mg "BadText" = some (.ref A.CBadText)
  xBadText : PySem.W.excIn K A.CBadText [.type "ValueError", .type "Exception", .type "BaseException", .type "object"] "ValueError.__new__" = true
  kBadText : PySem.W.keepIn K (.ref A.CBadText) = true
  bxBadText : PySem.W.subIn K (.ref A.CBadText) (.type "BaseException") = some true
  txBadText : PySem.W.typeIn K (.ref A.CBadText) = some (.type "type")
  exBadText : PySem.W.exmOne K (.ref A.CBadText) (.ref A.CBadText) = some true
  gBadPadding : mg "BadPadding" = some (.ref A.CBadPadding)
  xBadPadding : PySem.W.excIn K A.CBadPadding [.type "ValueError", .type "Exception", .type "BaseException", .type "object"] "ValueError.__new__" = true
  kBadPadding : PySem.W.keepIn K (.ref A.CBadPadding) = true
  bxBadPadding : PySem.W.subIn K (.ref A.CBadPadding) (.type "BaseException") = some true
  txBadPadding : PySem.W.typeIn K (.ref A.CBadPadding) = some (.type "type")
  exBadPadding : PySem.W.exmOne K (.ref A.CBadPadding) (.ref A.CBadPadding) = some true
  gObjectMissing : mg "ObjectMissing" = some (.ref A.CObjectMissing)
  xObjectMissing : PySem.W.excIn K A.CObjectMissing [.type "ValueError", .type "Exception", .type "BaseException", .type "object"] "ValueError.__new__" = true
  kObjectMissing : PySem.W.keepIn K (.ref A.CObjectMissing) = true
  bxObjectMissing : PySem.W.subIn K (.ref A.CObjectMissing) (.type "BaseException") = some true
  txObjectMissing : PySem.W.typeIn K (.ref A.CObjectMissing) = some (.type "type")
  exObjectMissing : PySem.W.exmOne K (.ref A.CObjectMissing) (.ref A.CObjectMissing) = some true
  iEBadLength : ExcC K A.CBadLength
  kitBadLength_BadLength : PySem.W.kitOne K (.ref A.CBadLength) (.ref A.CBadLength) = some true
  kitBadLength_BadText : PySem.W.kitOne K (.ref A.CBadLength) (.ref A.CBadText) = some false
  kitBadLength_BadPadding : PySem.W.kitOne K (.ref A.CBadLength) (.ref A.CBadPadding) = some false
  kitBadLength_ObjectMissing : PySem.W.kitOne K (.ref A.CBadLength) (.ref A.CObjectMissing) = some false
  iEBadText : ExcC K A.CBadText
  kitBadText_BadLength : PySem.W.kitOne K (.ref A.CBadText) (.ref A.CBadLength) = some false
  kitBadText_BadText : PySem.W.kitOne K (.ref A.CBadText) (.ref A.CBadText) = some true
  kitBadText_BadPadding : PySem.W.kitOne K (.ref A.CBadText) (.ref A.CBadPadding) = some false
  kitBadText_ObjectMissing : PySem.W.kitOne K (.ref A.CBadText) (.ref A.CObjectMissing) = some false
  iEBadPadding : ExcC K A.CBadPadding
  kitBadPadding_BadLength : PySem.W.kitOne K (.ref A.CBadPadding) (.ref A.CBadLength) = some false
  kitBadPadding_BadText : PySem.W.kitOne K (.ref A.CBadPadding) (.ref A.CBadText) = some false
  kitBadPadding_BadPadding : PySem.W.kitOne K (.ref A.CBadPadding) (.ref A.CBadPadding) = some true
  kitBadPadding_ObjectMissing : PySem.W.kitOne K (.ref A.CBadPadding) (.ref A.CObjectMissing) = some false
  iEObjectMissing : ExcC K A.CObjectMissing
  kitObjectMissing_BadLength : PySem.W.kitOne K (.ref A.CObjectMissing) (.ref A.CBadLength) = some false
  kitObjectMissing_BadText : PySem.W.kitOne K (.ref A.CObjectMissing) (.ref A.CBadText) = some false
  kitObjectMissing_BadPadding : PySem.W.kitOne K (.ref A.CObjectMissing) (.ref A.CBadPadding) = some false
  kitObjectMissing_ObjectMissing : PySem.W.kitOne K (.ref A.CObjectMissing) (.ref A.CObjectMissing) = some true
  exBadMessage_BadArguments : PySem.W.exmOne K (.ref A.CBadMessage) (.ref A.CBadArguments) = some false
  exBadMessage_BadLength : PySem.W.exmOne K (.ref A.CBadMessage) (.ref A.CBadLength) = some false
  exBadMessage_BadText : PySem.W.exmOne K (.ref A.CBadMessage) (.ref A.CBadText) = some false
  exBadMessage_BadPadding : PySem.W.exmOne K (.ref A.CBadMessage) (.ref A.CBadPadding) = some false
  exBadMessage_ObjectMissing : PySem.W.exmOne K (.ref A.CBadMessage) (.ref A.CObjectMissing) = some false
  exBadArguments_BadMessage : PySem.W.exmOne K (.ref A.CBadArguments) (.ref A.CBadMessage) = some false
  exBadArguments_BadLength : PySem.W.exmOne K (.ref A.CBadArguments) (.ref A.CBadLength) = some false
  exBadArguments_BadText : PySem.W.exmOne K (.ref A.CBadArguments) (.ref A.CBadText) = some false
  exBadArguments_BadPadding : PySem.W.exmOne K (.ref A.CBadArguments) (.ref A.CBadPadding) = some false
  exBadArguments_ObjectMissing : PySem.W.exmOne K (.ref A.CBadArguments) (.ref A.CObjectMissing) = some false
  exBadLength_BadMessage : PySem.W.exmOne K (.ref A.CBadLength) (.ref A.CBadMessage) = some false
  exBadLength_BadArguments : PySem.W.exmOne K (.ref A.CBadLength) (.ref A.CBadArguments) = some true
  exBadLength_BadText : PySem.W.exmOne K (.ref A.CBadLength) (.ref A.CBadText) = some false
  exBadLength_BadPadding : PySem.W.exmOne K (.ref A.CBadLength) (.ref A.CBadPadding) = some false
  exBadLength_ObjectMissing : PySem.W.exmOne K (.ref A.CBadLength) (.ref A.CObjectMissing) = some false
  exBadText_BadMessage : PySem.W.exmOne K (.ref A.CBadText) (.ref A.CBadMessage) = some false
  exBadText_BadArguments : PySem.W.exmOne K (.ref A.CBadText) (.ref A.CBadArguments) = some true
  exBadText_BadLength : PySem.W.exmOne K (.ref A.CBadText) (.ref A.CBadLength) = some false
  exBadText_BadPadding : PySem.W.exmOne K (.ref A.CBadText) (.ref A.CBadPadding) = some false
  exBadText_ObjectMissing : PySem.W.exmOne K (.ref A.CBadText) (.ref A.CObjectMissing) = some false
  exBadPadding_BadMessage : PySem.W.exmOne K (.ref A.CBadPadding) (.ref A.CBadMessage) = some false
  exBadPadding_BadArguments : PySem.W.exmOne K (.ref A.CBadPadding) (.ref A.CBadArguments) = some true
  exBadPadding_BadLength : PySem.W.exmOne K (.ref A.CBadPadding) (.ref A.CBadLength) = some false
  exBadPadding_BadText : PySem.W.exmOne K (.ref A.CBadPadding) (.ref A.CBadText) = some false
  exBadPadding_ObjectMissing : PySem.W.exmOne K (.ref A.CBadPadding) (.ref A.CObjectMissing) = some false
  exObjectMissing_BadMessage : PySem.W.exmOne K (.ref A.CObjectMissing) (.ref A.CBadMessage) = some false
  exObjectMissing_BadArguments : PySem.W.exmOne K (.ref A.CObjectMissing) (.ref A.CBadArguments) = some true
  exObjectMissing_BadLength : PySem.W.exmOne K (.ref A.CObjectMissing) (.ref A.CBadLength) = some false
  exObjectMissing_BadText : PySem.W.exmOne K (.ref A.CObjectMissing) (.ref A.CBadText) = some false
  exObjectMissing_BadPadding : PySem.W.exmOne K (.ref A.CObjectMissing) (.ref A.CBadPadding) = some false
section
variable {P : Program} {w : World} {K : PySem.W.Frag} {mg : Str → Option Value} {base : Heap} {A : Adr}
/-! ### common: tests, errors, small words -/
theorem exm_self {K : PySem.W.Frag} {S : Addr} (h1 : PySem.W.subIn K (.ref S) (.type "BaseException") = some true) (h2 : PySem.W.isClsIn K S = true) (h3 : PySem.W.typeIn K (.ref S) = some (.type "type")) (h4 : PySem.W.subIn K (.ref S) (.ref S) = some true) :
    PySem.W.exmOne K (.ref S) (.ref S) = some true := by
  have g1 : (PySem.W.subIn K (.ref S) (.type "BaseException") == some true) = true := by rw [h1]; rfl
  have g0 : (PySem.W.clsIn K S).isSome = true := h2
  have g2 : ((PySem.W.clsIn K S).isSome && PySem.W.typeIn K (.ref S) == some (.type "type")) = true := by rw [g0, h3]; rfl
  show (if (PySem.W.subIn K (.ref S) (.type "BaseException") == some true) = true then (if ((PySem.W.clsIn K S).isSome && PySem.W.typeIn K (.ref S) == some (.type "type")) = true then PySem.W.subIn K (.ref S) (.ref S) else none) else none) = some true
  rw [if_pos g1, if_pos g2]
  exact h4
theorem exm_cross {K : PySem.W.Frag} {S R : Addr} {b : Bool} (h1 : PySem.W.subIn K (.ref S) (.type "BaseException") = some true) (h2 : PySem.W.isClsIn K S = true) (h3 : PySem.W.typeIn K (.ref S) = some (.type "type")) (h4 : PySem.W.subIn K (.ref R) (.ref S) = some b) :
    PySem.W.exmOne K (.ref R) (.ref S) = some b := by
  have g1 : (PySem.W.subIn K (.ref S) (.type "BaseException") == some true) = true := by rw [h1]; rfl
  have g0 : (PySem.W.clsIn K S).isSome = true := h2
  have g2 : ((PySem.W.clsIn K S).isSome && PySem.W.typeIn K (.ref S) == some (.type "type")) = true := by rw [g0, h3]; rfl
  show (if (PySem.W.subIn K (.ref S) (.type "BaseException") == some true) = true then (if ((PySem.W.clsIn K S).isSome && PySem.W.typeIn K (.ref S) == some (.type "type")) = true then PySem.W.subIn K (.ref R) (.ref S) else none) else none) = some b
  rw [if_pos g1, if_pos g2]
  exact h4
/-- the law's own promise -/
def sp_law (K : PySem.W.Frag) : Sp := fun vs H Q _ => ∃ (a : Addr) (ns : List Int), vs = [.ref a] ∧ SqL K H a (ns.map V.int) ∧ ns.length ≤ 63 ∧ ∀ H', Q (.bl true) H'
theorem iteP {p A B : Prop} [Decidable p] (h1 : p → A) (h2 : ¬ p → B) : if decide p = true then A else B := by
  by_cases h : p
  · rw [decide_eq_true h]; exact iteT (h1 h)
  · rw [decide_eq_false h]; exact iteF (h2 h)
theorem iteN {p A B : Prop} [Decidable p] (h1 : ¬ p → A) (h2 : p → B) : if (!decide p) = true then A else B := by
  by_cases h : p
  · rw [decide_eq_true h]; exact iteF (h2 h)
  · rw [decide_eq_false h]; exact iteT (h1 h)
theorem iteEq {i j : Int} {A B : Prop} (h1 : i = j → A) (h2 : i ≠ j → B) : if decide (V.int i = V.int j) = true then A else B :=
  iteP (fun h => h1 (V.int.inj h)) (fun h => h2 fun e => h (congrArg V.int e))
theorem iteNe {i j : Int} {A B : Prop} (h1 : i ≠ j → A) (h2 : i = j → B) : if (!decide (V.int i = V.int j)) = true then A else B :=
  iteN (fun h => h1 fun e => h (congrArg V.int e)) (fun h => h2 (V.int.inj h))
theorem if_t {b : Bool} {A B : Prop} (e : b = true) (h : A) : if b = true then A else B := by rw [if_pos e]; exact h
theorem if_f {b : Bool} {A B : Prop} (e : b = false) (h : B) : if b = true then A else B := by rw [e]; exact iteF h
theorem if_b {b : Bool} {A B : Prop} (h1 : b = true → A) (h2 : b = false → B) : if b = true then A else B := by
  cases b with
  | true => exact iteT (h1 rfl)
  | false => exact iteF (h2 rfl)
theorem same_upd {H : Hp} {p : Addr} {o : HO} (h : H p = none) : Same H (upd H p o) := fun b x e => by
  rw [upd_ne (ne_of_none e h)]
  exact e
theorem len_line {n : Nat} (h : n ≤ 100000) : n ≤ sizeLine := Nat.le_trans h (by decide)
theorem lt_line {n : Nat} (h : n < 100000) : n < sizeLine := Nat.lt_of_lt_of_le h (by decide)
local macro_rules | `(tactic| walk_at "rd") => `(tactic| repeat (first
  | refine ⟨_, rfl, ?_⟩
  | refine ⟨_, _, rfl, rfl, ?_⟩
  | refine ⟨rfl, ?_⟩
  | refine Or.inl ⟨_, rfl, ?_⟩
  | refine ⟨(by show (0 : Int) < _; decide), ?_⟩
  | refine ⟨(⟨by decide, by decide⟩ : CDiv _ _), ?_⟩
  | refine ⟨(Or.inl ⟨by decide, by decide⟩ : CMul _ _), ?_⟩
  | refine ⟨(Or.inr ⟨by decide, by decide⟩ : CMul _ _), ?_⟩))
/-! ### data that are compared -/
def Sh (n : Nat) (d : PyData) : Prop := d.canLay0 = true ∧ d.depth ≤ n
theorem Sh.mono {n m : Nat} {d : PyData} (h : Sh n d) (l : n ≤ m) : Sh m d := ⟨h.1, Nat.le_trans h.2 l⟩
theorem sh_all : ∀ {n : Nat} {ds : List PyData}, (∀ d ∈ ds, Sh n d) → PyData.canLayAll0 ds = true ∧ PyData.depthAll ds ≤ n
  | n, [], _ => ⟨by simp [PyData.canLayAll0], by simp [PyData.depthAll]⟩
  | n, d :: ds, h => by
    have h1 := h d List.mem_cons_self
    have h2 := sh_all fun e he => h e (List.mem_cons_of_mem _ he)
    refine ⟨?_, ?_⟩
    · simp only [PyData.canLayAll0, Bool.and_eq_true]; exact ⟨h1.1, h2.1⟩
    · simp only [PyData.depthAll]; exact Nat.max_le.mpr ⟨h1.2, h2.2⟩
theorem sh_list {n : Nat} {ds : List PyData} (h : ∀ d ∈ ds, Sh n d) : Sh (n + 1) (.list ds) := by
  have q := sh_all h
  exact ⟨by simp only [PyData.canLay0]; exact q.1, by simp only [PyData.depth]; exact Nat.succ_le_succ q.2⟩
theorem sh_tuple {n : Nat} {ds : List PyData} (h : ∀ d ∈ ds, Sh n d) : Sh (n + 1) (.tuple ds) := by
  have q := sh_all h
  exact ⟨by simp only [PyData.canLay0]; exact q.1, by simp only [PyData.depth]; exact Nat.succ_le_succ q.2⟩
theorem sh_int (i : Int) : Sh 0 (.int i) := ⟨by simp [PyData.canLay0], by simp [PyData.depth]⟩
theorem sh_bool (i : Bool) : Sh 0 (.bool i) := ⟨by simp [PyData.canLay0], by simp [PyData.depth]⟩
theorem sh_none : Sh 0 .none := ⟨by simp [PyData.canLay0], by simp [PyData.depth]⟩
theorem sh_str {s : Str} (h : PyData.strOk s = true) : Sh 0 (.str s) := ⟨by simp only [PyData.canLay0]; exact h, by simp [PyData.depth]⟩
theorem Sh.shaped {n : Nat} {d : PyData} (h : Sh n d) (l : n ≤ 64 := by decide) : SeqAt.shaped d = true := by
  show (d.canLay0 && decide (d.depth ≤ 64)) = true
  rw [h.1, decide_eq_true (Nat.le_trans h.2 l)]
  rfl
theorem Sh.self {n : Nat} {d : PyData} (h : Sh n d) : PyData.eqv d d = true := SeqAt.eqv_refl d h.1
def pInts (xs : List Int) : PyData := .list (xs.map PyData.int)
theorem sh_ints (xs : List Int) : Sh 1 (pInts xs) := sh_list fun d hd => by
  obtain ⟨i, _, rfl⟩ := List.mem_map.mp hd
  exact sh_int i
theorem dpall_ints {K : PySem.W.Frag} {H : Hp} : ∀ xs : List Int, DpAll K H (xs.map V.int) (xs.map PyData.int)
  | [] => .nil
  | x :: r => .cons (.int x) (dpall_ints r)
theorem dp_ints {K : PySem.W.Frag} {H : Hp} {p : Addr} {xs : List Int} (h : SqL K H p (xs.map V.int)) : Dp K H (.ref p) (pInts xs) := .lst h (dpall_ints xs)
/-! ### views: what is new, what stands -/
structure Ext (V H V' H' : Hp) : Prop where
  vv : Same V V'
  vh : Same V' H'
  hh : Same H H'
  nw : ∀ a, V' a ≠ none → V a ≠ none ∨ H a = none
theorem Ext.refl {V H : Hp} (h : Same V H) : Ext V H V H := ⟨Same.refl V, h, Same.refl H, fun _ h => Or.inl h⟩
theorem Ext.trans {V H V1 H1 V2 H2 : Hp} (a : Ext V H V1 H1) (b : Ext V1 H1 V2 H2) : Ext V H V2 H2 :=
  ⟨a.vv.trans b.vv, b.vh, a.hh.trans b.hh, fun x h => by
    rcases b.nw x h with q | q
    · exact a.nw x q
    · exact Or.inr (a.hh.free q)⟩
theorem none_of_same {V H : Hp} {p : Addr} (s : Same V H) (h : H p = none) : V p = none := s.free h
theorem Ext.new {V H : Hp} {p : Addr} {o : HO} (s : Same V H) (h : H p = none) : Ext V H (upd V p o) (upd H p o) :=
  ⟨same_upd (s.free h), fun b u e => by
    by_cases hb : b = p
    · subst hb; rw [upd_same] at e ⊢; exact e
    · rw [upd_ne hb] at e ⊢; exact s b u e, same_upd h, fun a e => by
    by_cases ha : a = p
    · subst ha; exact Or.inr h
    · rw [upd_ne ha] at e; exact Or.inl e⟩
/-- a new object that the view does not take in -/
theorem Ext.skip {V H : Hp} {p : Addr} {o : HO} (s : Same V H) (h : H p = none) : Ext V H V (upd H p o) :=
  ⟨Same.refl V, s.trans (same_upd h), same_upd h, fun _ e => Or.inl e⟩
theorem Ext.keepOut {V H V' H' : Hp} (x : Ext V H V' H') {D : Addr} (h : V D = none) (hd : H D ≠ none) : V' D = none := by
  cases e : V' D with
  | none => rfl
  | some o =>
    rcases x.nw D (by rw [e]; exact fun z => by cases z) with q | q
    · exact absurd h q
    · exact absurd q hd
/-- an object outside of the view changes -/
theorem Ext.poke {V H V' H' : Hp} (x : Ext V H V' H') {D : Addr} {o : HO} (hd : H D = none) (h : V' D = none) : Ext V H V' (upd H' D o) :=
  ⟨x.vv, fun b u e => by
    have hb : b ≠ D := fun z => by rw [z, h] at e; cases e
    rw [upd_ne hb]; exact x.vh b u e, fun b u e => by
    have hb : b ≠ D := ne_of_none e hd
    rw [upd_ne hb]; exact x.hh b u e, x.nw⟩
/-- the object at D, done, is taken in -/
theorem Ext.take {V H V' H' : Hp} (x : Ext V H V' H') {D : Addr} {o : HO} (hd : H D = none) (h : V' D = none) (e : H' D = some o) : Ext V H (upd V' D o) H' :=
  ⟨x.vv.trans (same_upd h), fun b u q => by
    by_cases hb : b = D
    · subst hb; rw [upd_same] at q; rw [e]; exact q
    · rw [upd_ne hb] at q; exact x.vh b u q, x.hh, fun a q => by
    by_cases ha : a = D
    · subst ha; exact Or.inr hd
    · rw [upd_ne ha] at q; exact x.nw a q⟩
theorem _root_.L2.Same.sqt {K : PySem.W.Frag} {H H' : Hp} {a : Addr} {xs : List V} (e : Same H H') (h : SqT K H a xs) : SqT K H' a xs := by
  rcases h with (h | ⟨o, h⟩) | h
  · exact .inl (.inl (e _ _ h))
  · exact .inl (.inr ⟨o, e _ _ h⟩)
  · exact .inr h
mutual
theorem dp_same {K : PySem.W.Frag} {H H' : Hp} (s : Same H H') : ∀ (d : PyData) (v : V), Dp K H v d → Dp K H' v d
  | .none, _, h => by cases h; exact .non
  | .bool b, _, h => by cases h; exact .bl b
  | .int i, _, h => by cases h; exact .int i
  | .str x, _, h => by cases h; exact .str x
  | .list ds, _, h => by
    cases h with
    | lst q r => exact .lst (s.seq q) (dpall_same s ds _ r)
  | .tuple ds, _, h => by
    cases h with
    | tup q r => exact .tup (s.sqt q) (dpall_same s ds _ r)
  | .dict _, _, h => by cases h
theorem dpall_same {K : PySem.W.Frag} {H H' : Hp} (s : Same H H') : ∀ (ds : List PyData) (vs : List V), DpAll K H vs ds → DpAll K H' vs ds
  | [], _, h => by cases h; exact .nil
  | d :: ds, _, h => by
    cases h with
    | cons q r => exact .cons (dp_same s d _ q) (dpall_same s ds _ r)
end
theorem _root_.L2.Dp.to {K : PySem.W.Frag} {H H' : Hp} {v : V} {d : PyData} (h : Dp K H v d) (s : Same H H') : Dp K H' v d := dp_same s d v h
theorem _root_.L2.DpAll.to {K : PySem.W.Frag} {H H' : Hp} {v : List V} {d : List PyData} (h : DpAll K H v d) (s : Same H H') : DpAll K H' v d := dpall_same s d v h
theorem dpall_len {K : PySem.W.Frag} {H : Hp} : ∀ {vs : List V} {ds : List PyData}, DpAll K H vs ds → vs.length = ds.length
  | _, [], h => by cases h; rfl
  | _, d :: ds, h => by
    cases h with
    | cons q r => exact congrArg (· + 1) (dpall_len r)
theorem dpall_get {K : PySem.W.Frag} {H : Hp} : ∀ {vs : List V} {ds : List PyData} {i : Nat} {v : V}, DpAll K H vs ds → vs[i]? = some v → ∃ d, ds[i]? = some d ∧ Dp K H v d
  | _, [], i, v, h, e => by cases h; cases e
  | _, d :: ds, i, v, h, e => by
    cases h with
    | cons q r =>
      match i, e with
      | 0, e => cases e; exact ⟨d, rfl, q⟩
      | i + 1, e => exact dpall_get (i := i) r e
theorem dpall_get' {K : PySem.W.Frag} {H : Hp} : ∀ {vs : List V} {ds : List PyData} {i : Nat} {d : PyData}, DpAll K H vs ds → ds[i]? = some d → ∃ v, vs[i]? = some v ∧ Dp K H v d
  | _, [], i, d, h, e => by cases e
  | _, d :: ds, i, d', h, e => by
    cases h with
    | cons q r =>
      match i, e with
      | 0, e => cases e; exact ⟨_, rfl, q⟩
      | i + 1, e => exact dpall_get' (i := i) r e
theorem dpall_app {K : PySem.W.Frag} {H : Hp} : ∀ {vs ws : List V} {ds es : List PyData}, DpAll K H vs ds → DpAll K H ws es → DpAll K H (vs ++ ws) (ds ++ es)
  | _, _, [], _, h, g => by cases h; exact g
  | _, _, d :: ds, _, h, g => by
    cases h with
    | cons q r => exact .cons q (dpall_app r g)
theorem dp_list {K : PySem.W.Frag} {H : Hp} {v : V} {ds : List PyData} (h : Dp K H v (.list ds)) : ∃ a xs, v = .ref a ∧ SqL K H a xs ∧ DpAll K H xs ds := by
  cases h with
  | lst q r => exact ⟨_, _, rfl, q, r⟩
theorem dp_tuple {K : PySem.W.Frag} {H : Hp} {v : V} {ds : List PyData} (h : Dp K H v (.tuple ds)) : ∃ a xs, v = .ref a ∧ SqT K H a xs ∧ DpAll K H xs ds := by
  cases h with
  | tup q r => exact ⟨_, _, rfl, q, r⟩
theorem dp_int {K : PySem.W.Frag} {H : Hp} {v : V} {i : Int} (h : Dp K H v (.int i)) : v = .int i := by cases h; rfl
theorem dp_str {K : PySem.W.Frag} {H : Hp} {v : V} {i : Str} (h : Dp K H v (.str i)) : v = .str i := by cases h; rfl
theorem dp_bool {K : PySem.W.Frag} {H : Hp} {v : V} {i : Bool} (h : Dp K H v (.bool i)) : v = .bl i := by cases h; rfl
/-! ### comprehensions over any walk -/
def fm {α : Type} (f : Nat → Option α) (n : Nat) : List α := (List.range n).filterMap f
theorem fm_succ {α : Type} (f : Nat → Option α) (n : Nat) : fm f (n + 1) = fm f n ++ (f n).toList := by
  unfold fm
  rw [List.range_succ, List.filterMap_append]
  congr 1
theorem fm_len {α : Type} (f : Nat → Option α) (n : Nat) : (fm f n).length ≤ n := by
  have h := List.length_filterMap_le f (List.range n)
  rw [List.length_range] at h
  exact h
structure LcInv (K : PySem.W.Frag) (V0 H0 : Hp) (D : Addr) (acc : List PyData) (H : Hp) : Prop where
  ex : ∃ V xs, Ext V0 H0 V H ∧ V D = none ∧ H D = some (.lst xs) ∧ DpAll K V xs acc
theorem LcInv.start {K : PySem.W.Frag} {V0 H0 : Hp} {D : Addr} (s : Same V0 H0) (hD : H0 D = none) : LcInv K V0 H0 D [] (upd H0 D (.lst [])) :=
  ⟨V0, [], Ext.skip s hD, s.free hD, upd_same, .nil⟩
theorem LcInv.done {K : PySem.W.Frag} {V0 H0 H : Hp} {D : Addr} {acc : List PyData} (hD : H0 D = none) (i : LcInv K V0 H0 D acc H) : ∃ U xs, Ext V0 H0 U H ∧ U D = some (.lst xs) ∧ DpAll K U xs acc ∧ Dp K U (.ref D) (.list acc) := by
  obtain ⟨V, xs, x, hv, hd, dp⟩ := i.ex
  exact ⟨_, xs, x.take hD hv hd, upd_same, dp.to (same_upd hv), .lst (SqL.of upd_same) (dp.to (same_upd hv))⟩
/-- one more item -/
theorem LcInv.push {K : PySem.W.Frag} {V0 H0 U H U' H' : Hp} {D : Addr} {acc : List PyData} {xs : List V} {y : V} {d : PyData} (hD : H0 D = none) (x : Ext V0 H0 U H) (hv : U D = none) (hd : H D = some (.lst xs)) (dp : DpAll K U xs acc)
    (x2 : Ext U H U' H') (e : Dp K U' y d) (hl : acc.length < 100000) :
    ∃ acc', H' D = some (.lst acc') ∧ acc'.length < sizeLine ∧ LcInv K V0 H0 D (acc ++ [d]) (upd H' D (.lst (acc' ++ [y]))) := by
  have hv' : U' D = none := x2.keepOut hv (by rw [hd]; exact fun z => by cases z)
  refine ⟨xs, x2.hh _ _ hd, lt_line (by rw [dpall_len dp]; exact hl), U', xs ++ [y], (x.trans x2).poke hD hv', hv', upd_same, dpall_app (dp.to x2.vv) (.cons e .nil)⟩
/-- a comprehension's reading over a walk that leaves the heap as it is: at turn i the item x, then f i: the data of what is put in, or none -/
theorem lc_dp0 {J : It} {n : Nat} {G : Hp → Prop} {Y : Nat → Hp → V → Hp → Prop} (wk : Walk J n G Y) {K : PySem.W.Frag} {V0 H0 : Hp} {D : Addr} {g : TG} {tt : TT} {te : TE} {vs : List Nat} {σ : St} {Qd : Hp → Prop} (f : Nat → Option PyData) (σ0 : St) (hσ : wipe σ vs = σ0) (s0 : Same V0 H0) (hD : H0 D = none) (hn : n < 100000)
    (hG : ∀ H, Same H0 H → G H) (hY : ∀ i H x H', Y i H x H' → H' = H)
    (hs : ∀ i x V H, i < n → Ext V0 H0 V H → Y i H x H → ∀ (Qy : VK) (Qn : Hp → Prop), (∀ d y V' H', f i = some d → Ext V H V' H' → Dp K V' y d → Qy y H') → (f i = none → ∀ V' H', Ext V H V' H' → Qn H') →
      g x σ0 H fun σ2 H2 => wipe σ2 vs = σ0 ∧ tt σ2 H2 fun b H3 => if b = true then te σ2 H3 Qy else Qn H3)
    (hd : ∀ (U H : Hp) (xs : List V), Ext V0 H0 U H → U D = none → H D = some (.lst xs) → DpAll K U xs (fm f n) → Qd H) :
    ∃ W : Nat → Nat → Hp → Prop, (∃ m, W 0 m (upd H0 D (.lst []))) ∧ ∀ i m H, W i m H →
      (J.stop i H ∧ Qd H) ∨ (J.go i H ∧ ∃ Nx : Hp → Prop, (∀ H', Nx H' → ∃ m', m' < m ∧ W (i + 1) m' H') ∧ ∀ x H', J.yld i H x H' → g x (wipe σ vs) H' fun σ2 H2 => wipe σ2 vs = wipe σ vs ∧ tt σ2 H2 fun b H3 =>
        if b = true then te σ2 H3 fun y H4 => ∃ acc, H4 D = some (.lst acc) ∧ acc.length < sizeLine ∧ Nx (upd H4 D (.lst (acc ++ [y]))) else Nx H3) := by
  subst hσ
  refine lc_it wk (fun i H => LcInv K V0 H0 D (fm f i) H) (LcInv.start s0 hD) (fun i H _ p => ?_) (fun i x H H' hi p y => ?_) (fun H p => ?_)
  · obtain ⟨V, xs, x, _⟩ := p.ex
    exact hG H x.hh
  · obtain ⟨V, xs, x0, hv, hdd, dp⟩ := p.ex
    obtain rfl := hY i H x H' y
    refine hs i x V H' hi x0 y _ _ (fun d y' V' H4 e x2 dy => ?_) (fun e V' H4 x2 => ?_)
    · have hl : (fm f i).length < 100000 := Nat.lt_of_le_of_lt (fm_len f i) (Nat.lt_trans hi hn)
      obtain ⟨acc', a1, a2, a3⟩ := LcInv.push hD x0 hv hdd dp x2 dy hl
      refine ⟨acc', a1, a2, ?_⟩
      rw [fm_succ, e]
      exact a3
    · have hv' : V' D = none := x2.keepOut hv (by rw [hdd]; exact fun z => by cases z)
      rw [fm_succ, e]
      show LcInv K V0 H0 D (fm f i ++ []) H4
      rw [List.append_nil]
      exact ⟨V', xs, x0.trans x2, hv', x2.hh _ _ hdd, dp.to x2.vv⟩
  · obtain ⟨U, xs, x, hv, hdd, dp⟩ := p.ex
    exact hd U H xs x hv hdd dp
/-- a comprehension's reading over a walk that leaves the heap as it is: at turn i the item x, then f i: the data of what is put in, or none -/
theorem lc_dp {J : It} {n : Nat} {G : Hp → Prop} {Y : Nat → Hp → V → Hp → Prop} (wk : Walk J n G Y) {K : PySem.W.Frag} {V0 H0 : Hp} {D : Addr} {g : TG} {tt : TT} {te : TE} {vs : List Nat} {σ : St} {Qd : Hp → Prop} (f : Nat → Option PyData) (σ0 : St) (hσ : wipe σ vs = σ0) (s0 : Same V0 H0) (hD : H0 D = none) (hn : n < 100000)
    (hG : ∀ H, Same H0 H → G H) (hY : ∀ i H x H', Y i H x H' → H' = H)
    (hs : ∀ i x V H, i < n → Ext V0 H0 V H → Y i H x H → ∀ (Qy : VK) (Qn : Hp → Prop), (∀ d y V' H', f i = some d → Ext V H V' H' → Dp K V' y d → Qy y H') → (f i = none → ∀ V' H', Ext V H V' H' → Qn H') →
      g x σ0 H fun σ2 H2 => wipe σ2 vs = σ0 ∧ tt σ2 H2 fun b H3 => if b = true then te σ2 H3 Qy else Qn H3)
    (hd : ∀ (U H : Hp) (xs : List V), Ext V0 H0 U H → U D = some (.lst xs) → DpAll K U xs (fm f n) → Dp K U (.ref D) (.list (fm f n)) → Qd H) :
    ∃ W : Nat → Nat → Hp → Prop, (∃ m, W 0 m (upd H0 D (.lst []))) ∧ ∀ i m H, W i m H →
      (J.stop i H ∧ Qd H) ∨ (J.go i H ∧ ∃ Nx : Hp → Prop, (∀ H', Nx H' → ∃ m', m' < m ∧ W (i + 1) m' H') ∧ ∀ x H', J.yld i H x H' → g x (wipe σ vs) H' fun σ2 H2 => wipe σ2 vs = wipe σ vs ∧ tt σ2 H2 fun b H3 =>
        if b = true then te σ2 H3 fun y H4 => ∃ acc, H4 D = some (.lst acc) ∧ acc.length < sizeLine ∧ Nx (upd H4 D (.lst (acc ++ [y]))) else Nx H3) := by
  refine lc_dp0 wk f σ0 hσ s0 hD hn hG hY hs fun U H xs x hv hdd dp => ?_
  exact hd _ H xs (x.take hD hv hdd) upd_same (dp.to (same_upd hv)) (.lst (SqL.of upd_same) (dp.to (same_upd hv)))
theorem fm_map {α β : Type} (f : α → β) : ∀ (xs : List α), fm (fun i => (xs[i]?).map f) xs.length = xs.map f := by
  intro xs
  have h : ∀ n, n ≤ xs.length → fm (fun i => (xs[i]?).map f) n = (xs.take n).map f := by
    intro n
    induction n with
    | zero => intro _; rfl
    | succ n ih =>
      intro hn
      rw [fm_succ, ih (by omega), List.getElem?_eq_getElem (by omega), List.take_succ_eq_append_getElem (by omega), List.map_append]
      rfl
  rw [h _ (Nat.le_refl _), List.take_length]

theorem lc2_outer {J : It} {n : Nat} {G : Hp → Prop} {Y : Nat → Hp → V → Hp → Prop} (wk : Walk J n G Y) {K : PySem.W.Frag} {V0 H0 : Hp} {D : Addr} {g : TG} {vs : List Nat} {σ : St} {body : St → Hp → (Hp → Prop) → Prop} {Qd : Hp → Prop} (F : Nat → List PyData) (σ0 : St) (hσ : wipe σ vs = σ0) (s0 : Same V0 H0) (hD : H0 D = none) (hF : F 0 = [])
    (hG : ∀ H, Same H0 H → G H) (hY : ∀ i H x H', Y i H x H' → H' = H)
    (hs : ∀ i x H, i < n → LcInv K V0 H0 D (F i) H → Y i H x H → ∀ Nx : Hp → Prop, (∀ H', LcInv K V0 H0 D (F (i + 1)) H' → Nx H') → g x σ0 H fun σ2 H2 => wipe σ2 vs = σ0 ∧ body σ2 H2 Nx)
    (hd : ∀ (U H : Hp) (xs : List V), Ext V0 H0 U H → U D = some (.lst xs) → DpAll K U xs (F n) → Dp K U (.ref D) (.list (F n)) → Qd H) :
    ∃ W : Nat → Nat → Hp → Prop, (∃ m, W 0 m (upd H0 D (.lst []))) ∧ ∀ i m H, W i m H →
      (J.stop i H ∧ Qd H) ∨ (J.go i H ∧ ∃ Nx : Hp → Prop, (∀ H', Nx H' → ∃ m', m' < m ∧ W (i + 1) m' H') ∧ ∀ x H', J.yld i H x H' → g x (wipe σ vs) H' fun σ2 H2 => wipe σ2 vs = wipe σ vs ∧ body σ2 H2 Nx) := by
  subst hσ
  refine ⟨fun i m H => m = n - i ∧ i ≤ n ∧ LcInv K V0 H0 D (F i) H, ⟨n, by simp, Nat.zero_le _, by rw [hF]; exact LcInv.start s0 hD⟩, ?_⟩
  rintro i m H ⟨rfl, hi, p⟩
  have sH : Same H0 H := by obtain ⟨_, _, x, _⟩ := p.ex; exact x.hh
  by_cases hlt : i < n
  · refine .inr ⟨wk.goes i H hlt (hG H sH), fun H' => LcInv K V0 H0 D (F (i + 1)) H', fun H' p' => ⟨n - (i + 1), by omega, rfl, hlt, p'⟩, fun x H' y => ?_⟩
    have y' := wk.yields i H x H' hlt (hG H sH) y
    obtain rfl := hY i H x H' y'
    exact hs i x H' hlt p y' _ fun _ h => h
  · have e : i = n := by omega
    subst e
    obtain ⟨U, xs, x, e1, e2, e3⟩ := p.done hD
    exact .inl ⟨wk.stops H (hG H sH), hd U H xs x e1 e2 e3⟩
theorem lc2_inner {J : It} {n : Nat} {G : Hp → Prop} {Y : Nat → Hp → V → Hp → Prop} (wk : Walk J n G Y) {K : PySem.W.Frag} {V0 H0 H4 : Hp} {D : Addr} {acc0 : List PyData} {g : TG} {tt : TT} {te : TE} {vs : List Nat} {σ : St} {Nx : Hp → Prop} (f : Nat → Option PyData) (σ0 : St) (hσ : wipe σ vs = σ0) (hD : H0 D = none)
    (inv : LcInv K V0 H0 D acc0 H4) (hn : acc0.length + n < 100000) (hG : ∀ H, Same H0 H → G H) (hY : ∀ i H x H', Y i H x H' → H' = H)
    (hs : ∀ i x V H, i < n → Ext V0 H0 V H → Y i H x H → ∀ (Qy : VK) (Qn : Hp → Prop), (∀ d y V' H', f i = some d → Ext V H V' H' → Dp K V' y d → Qy y H') → (f i = none → ∀ V' H', Ext V H V' H' → Qn H') →
      g x σ0 H fun σ2 H2 => wipe σ2 vs = σ0 ∧ tt σ2 H2 fun b H3 => if b = true then te σ2 H3 Qy else Qn H3)
    (hd : ∀ H, LcInv K V0 H0 D (acc0 ++ fm f n) H → Nx H) :
    ∃ W : Nat → Nat → Hp → Prop, (∃ m, W 0 m H4) ∧ ∀ i m H, W i m H →
      (J.stop i H ∧ Nx H) ∨ (J.go i H ∧ ∃ Nx1 : Hp → Prop, (∀ H', Nx1 H' → ∃ m', m' < m ∧ W (i + 1) m' H') ∧ ∀ x H', J.yld i H x H' → g x (wipe σ vs) H' fun σ2 H2 => wipe σ2 vs = wipe σ vs ∧ tt σ2 H2 fun b H3 =>
        if b = true then te σ2 H3 fun y H4 => ∃ acc, H4 D = some (.lst acc) ∧ acc.length < sizeLine ∧ Nx1 (upd H4 D (.lst (acc ++ [y]))) else Nx1 H3) := by
  subst hσ
  refine ⟨fun i m H => m = n - i ∧ i ≤ n ∧ LcInv K V0 H0 D (acc0 ++ fm f i) H, ⟨n, by simp, Nat.zero_le _, by rw [show fm f 0 = [] from rfl, List.append_nil]; exact inv⟩, ?_⟩
  rintro i m H ⟨rfl, hi, p⟩
  have sH : Same H0 H := by obtain ⟨_, _, x, _⟩ := p.ex; exact x.hh
  by_cases hlt : i < n
  · refine .inr ⟨wk.goes i H hlt (hG H sH), fun H' => LcInv K V0 H0 D (acc0 ++ fm f (i + 1)) H', fun H' p' => ⟨n - (i + 1), by omega, rfl, hlt, p'⟩, fun x H' y => ?_⟩
    have y' := wk.yields i H x H' hlt (hG H sH) y
    obtain rfl := hY i H x H' y'
    obtain ⟨V, xs, x0, hv, hdd, dp⟩ := p.ex
    refine hs i x V H' hlt x0 y' _ _ (fun d y' V' H4 e x2 dy => ?_) (fun e V' H4 x2 => ?_)
    · have hl : (acc0 ++ fm f i).length < 100000 := by have := fm_len f i; rw [List.length_append]; omega
      obtain ⟨acc', a1, a2, a3⟩ := LcInv.push hD x0 hv hdd dp x2 dy hl
      refine ⟨acc', a1, a2, ?_⟩
      rw [fm_succ, e, ← List.append_assoc]
      exact a3
    · have hv' : V' D = none := x2.keepOut hv (by rw [hdd]; exact fun z => by cases z)
      rw [fm_succ, e]
      show LcInv K V0 H0 D (acc0 ++ (fm f i ++ [])) H4
      rw [List.append_nil]
      exact ⟨V', xs, x0.trans x2, hv', x2.hh _ _ hdd, dp.to x2.vv⟩
  · have e : i = n := by omega
    subst e
    exact .inl ⟨wk.stops H (hG H sH), hd H p⟩
theorem fm_some {α : Type} (f : Nat → α) (n : Nat) : fm (fun i => some (f i)) n = (List.range n).map f := by
  induction n with
  | zero => rfl
  | succ n ih => rw [fm_succ, ih, List.range_succ, List.map_append]; rfl
theorem fl_take' {α : Type} {β : Type} (f : α → List β) : ∀ (xs : List α) (i : Nat) (x : α), xs[i]? = some x → (xs.take (i + 1)).flatMap f = (xs.take i).flatMap f ++ f x := by
  intro xs i x h
  obtain ⟨hi, e⟩ := List.getElem?_eq_some_iff.mp h
  rw [List.take_succ_eq_append_getElem hi, List.flatMap_append, e]
  show _ ++ (f x ++ []) = _
  rw [List.append_nil]
theorem fl_le' {α : Type} {β : Type} (f : α → List β) (xs : List α) (i : Nat) : ((xs.take i).flatMap f).length ≤ (xs.flatMap f).length := by
  have : xs.flatMap f = (xs.take i).flatMap f ++ (xs.drop i).flatMap f := by rw [← List.flatMap_append, List.take_append_drop]
  rw [this, List.length_append]; omega
/-! ### lists of ints, texts -/
theorem tyL {K : PySem.W.Frag} {H : Hp} {a : Addr} {xs : List V} (h : SqL K H a xs) : TyX K H (.ref a) (.type "list") := by
  rcases h with (h | ⟨o, h⟩) | ⟨o, its, n, h, c, _⟩
  · exact .base (.lst h)
  · exact .base (.frz h)
  · exact .kList h c
theorem tyT {K : PySem.W.Frag} {H : Hp} {a : Addr} {xs : List V} (h : SqT K H a xs) : TyX K H (.ref a) (.type "tuple") := by
  rcases h with (h | ⟨o, h⟩) | ⟨o, its, n, h, c, _⟩
  · exact .base (.tup h)
  · exact .fTuple h
  · exact .kTuple h c
theorem dp_intsV {K : PySem.W.Frag} {H : Hp} : ∀ {xs : List V} {is : List Int}, DpAll K H xs (is.map PyData.int) → xs = is.map V.int
  | _, [], r => by cases r; rfl
  | _, i :: is, r => by
    cases r with
    | cons r1 r2 => cases r1; rw [dp_intsV r2]; rfl
theorem dp_intsL {K : PySem.W.Frag} {H : Hp} {a : Addr} {is : List Int} (h : Dp K H (.ref a) (.list (is.map PyData.int))) : SqL K H a (is.map V.int) := by
  obtain ⟨a', xs, e, q, r⟩ := dp_list h
  cases e
  rw [← dp_intsV r]; exact q
theorem dp_strsV {K : PySem.W.Frag} {H : Hp} : ∀ {xs : List V} {is : List Str}, DpAll K H xs (is.map PyData.str) → xs = is.map V.str
  | _, [], r => by cases r; rfl
  | _, i :: is, r => by
    cases r with
    | cons r1 r2 => cases r1; rw [dp_strsV r2]; rfl
theorem dp_boolsV {K : PySem.W.Frag} {H : Hp} : ∀ {xs : List V} {is : List Bool}, DpAll K H xs (is.map PyData.bool) → xs = is.map V.bl
  | _, [], r => by cases r; rfl
  | _, i :: is, r => by
    cases r with
    | cons r1 r2 => cases r1; rw [dp_boolsV r2]; rfl
theorem dp_boolsL {K : PySem.W.Frag} {H : Hp} {a : Addr} {is : List Bool} (h : Dp K H (.ref a) (.list (is.map PyData.bool))) : SqL K H a (is.map V.bl) := by
  obtain ⟨a', xs, e, q, r⟩ := dp_list h
  cases e
  rw [← dp_boolsV r]; exact q
theorem size_eq (z : Str) : z.cps.size = z.cps.toList.length := by simp
theorem cps_at (z : Str) (i : Nat) : z.cps[i]? = z.cps.toList[i]? := by simp
theorem fm_list {α β : Type} (f : α → β) (xs : List α) (n : Nat) (h : n = xs.length) (g : Nat → Option β) (hg : ∀ i x, xs[i]? = some x → g i = some (f x)) : fm g n = xs.map f := by
  subst h
  rw [← fm_map f xs]
  unfold fm
  have : ∀ l : List Nat, (∀ i ∈ l, i < xs.length) → l.filterMap g = l.filterMap fun i => (xs[i]?).map f := by
    intro l
    induction l with
    | nil => intro _; rfl
    | cons i l ih =>
      intro hl
      have hi' := hl i List.mem_cons_self
      rw [List.filterMap_cons, List.filterMap_cons, hg i _ (List.getElem?_eq_getElem hi'), List.getElem?_eq_getElem hi', ih fun j hj => hl j (List.mem_cons_of_mem _ hj)]
      rfl
  exact this _ fun i hi => List.mem_range.mp hi
theorem rep_flat {α : Type} (v : α) : ∀ n : Nat, (List.replicate n [v]).flatten = List.replicate n v
  | 0 => rfl
  | n + 1 => by rw [List.replicate_succ, List.replicate_succ, List.flatten_cons, rep_flat v n]; rfl
/-- a list's object that is tracked, at p, new -/
structure NewL (H H' : Hp) (p : Addr) (xs : List V) : Prop where
  new : H p = none
  same : Same H H'
  at_ : H' p = some (.lst xs)
theorem NewL.ext {U H H' : Hp} {p : Addr} {xs : List V} (n : NewL H H' p xs) (s : Same U H) : Ext U H (upd U p (.lst xs)) H' :=
  ⟨same_upd (s.free n.new), fun b u e => by
    by_cases hb : b = p
    · subst hb; rw [upd_same] at e; rw [n.at_]; exact e
    · rw [upd_ne hb] at e; exact n.same _ _ (s b u e), n.same, fun a e => by
    by_cases ha : a = p
    · subst ha; exact Or.inr n.new
    · rw [upd_ne ha] at e; exact Or.inl e⟩
theorem str_app (x y : Str) : (x ++ y).cps.toList = x.cps.toList ++ y.cps.toList := Array.toList_append
theorem str_len_app (x y : Str) : (x ++ y).length = x.length + y.length := by
  show (x ++ y).cps.size = x.cps.size + y.cps.size
  rw [size_eq, str_app, List.length_append, ← size_eq, ← size_eq]
/-! ### _law_cell, _law_row -/
def lawCell (ns : List Int) (k : Nat) : Int :=
  let c := if 0 < ns.length then ns.getD (k % ns.length) 0 else 0
  if c < 0 then 1 - 2 * c else c
theorem lawCell_nn (ns : List Int) (k : Nat) : 0 ≤ lawCell ns k := by
  unfold lawCell
  simp only
  split <;> omega
def lawOne (c : Int) (k : Nat) : Int := (c * 48271 + (k : Int) * 69621 + 12345) % 2147483647
def lawTwo (o : Int) (k : Nat) : Int := (o * o + 16807 * (k : Int) + 7) % 2147483629
def lawRow (ns : List Int) (k : Nat) : Int :=
  if k < ns.length ∧ 1000000000 ≤ lawCell ns k then lawCell ns k
  else (lawTwo (lawOne (lawCell ns k) k) k * lawTwo (lawOne (lawCell ns k) k) k + lawOne (lawCell ns k) k) % 4294967291 + 4294967296 * (lawOne (lawCell ns k) k + 1)
theorem lawOne_b (c : Int) (k : Nat) : 0 ≤ lawOne c k ∧ lawOne c k < 2147483647 := by unfold lawOne; omega
theorem lawTwo_b (c : Int) (k : Nat) : 0 ≤ lawTwo c k ∧ lawTwo c k < 2147483629 := by
  unfold lawTwo
  generalize c * c + 16807 * (k : Int) + 7 = x
  omega
theorem lawRow_nn (ns : List Int) (k : Nat) : 0 ≤ lawRow ns k := by
  unfold lawRow
  have h1 := lawOne_b (lawCell ns k) k
  split
  · exact lawCell_nn ns k
  · generalize lawTwo (lawOne (lawCell ns k) k) k * lawTwo (lawOne (lawCell ns k) k) k + lawOne (lawCell ns k) k = x
    omega
def sp__law_cell (K : PySem.W.Frag) : Sp := fun vs H Q _ => ∃ (a : Addr) (ns : List Int) (k : Nat), vs = [.ref a, .int (k : Int)] ∧ SqL K H a (ns.map V.int) ∧ Q (.int (lawCell ns k)) H
theorem sc__law_cell : FnScope ["script", "k", "cell"] ["script", "k"] (defScope s__law_cell) := ⟨rfl, rfl, rfl, by decide +kernel, rfl, by decide +kernel, by decide +kernel⟩
theorem ok__law_cell (T : Txt K mg A) : FnOk P w K mg base CX0 1 A.f_law_cell A.d_law_cell ["script", "k"] (sp__law_cell K) := by
  refine T.F_law_cell.ok sc__law_cell (fun vs H Q E h => ?_) (fun cdv Ar outer s H vs Q E hr h => ?_)
  · obtain ⟨a, ns, k, rfl, _⟩ := h
    rfl
  · obtain ⟨a, ns, k, rfl, hS, q⟩ := h
    refine ⟨_, (pss_cons (ps_set (i := 2) sc__law_cell.nd rfl (Or.inl rfl) pe_int)
      (pss_cons (ps_if (pt_cmpR op_gt (pe_callB call_len_seq (by rfl) T.len PySem.boot_len (pa_cons (pv 0) pa_nil)) pe_int (nomark _))
      (pss_one (ps_set (i := 2) sc__law_cell.nd rfl (Or.inl rfl) (pe_ix ix_list (pv 0) (pe_op op_mod (pe_callTy call_int1 (by rfl) T.int (by decide +kernel) (pa_cons (pv 1) pa_nil)) (pe_callB call_len_seq (by rfl) T.len PySem.boot_len (pa_cons (pv 0) pa_nil))) (fun _ _ => rfl))))
      pss_nil)
      (pss_cons (ps_if (pt_cmpR op_lt (pv 2) pe_int (nomark _))
      (pss_one (ps_set (i := 2) sc__law_cell.nd rfl (Or.inl rfl) (pe_op op_sub pe_int (pe_op op_mul pe_int (pv 2)))))
      pss_nil)
      (pss_one (ps_ret (pv 2)))))), ?_⟩
    have two : ∀ (c : Int), (if c < 0 then 1 - 2 * c else c) = lawCell ns k → tSeq (tIfS (tTest (tOp (rI0 fun i j => .bl (decide (i < j))) (tVar 2) (tC (.int 0)))) (tAsg (tOp (rI0 fun i j => .int (i - j)) (tC (.int 1)) (tOp (rI CMul fun i j => .int (i * j)) (tC (.int 2)) (tVar 2))) (gName 2)) tNext) (tRet (tVar 2))
        { nx := fun _ H' => Q .non H', rt := Q } [some (.ref a), some (.int (k : Int)), some (.int c)] H := by
      intro c hc
      walk_at "rd"
      refine iteP (fun h => ?_) (fun h => ?_)
      · rw [if_pos h] at hc
        walk_at "rd"
        rw [← hc] at q; exact q
      · rw [if_neg h] at hc
        walk_at "rd"
        rw [← hc] at q; exact q
    refine ⟨.ref a, rfl, a, _, rfl, .inl hS, _, _, rfl, rfl, _, rfl, iteP (fun h => ?_) (fun h => ?_)⟩
    · have h0 : 0 < ns.length := by rw [List.length_map] at h; omega
      refine ⟨_, rfl, _, rfl, Or.inl ⟨_, rfl, ?_⟩⟩
      refine ⟨_, rfl, a, _, rfl, .inl hS, _, _, rfl, rfl, by show (0 : Int) < _; omega, a, _, _, .int (ns.getD (k % ns.length) 0), rfl, rfl, hS, ?_, ?_⟩
      · refine at_of (j := k % ns.length) ?_ ?_
        · rw [List.length_map]; exact (Int.natCast_emod _ _).symm
        · rw [List.getElem?_map, List.getElem?_eq_getElem (Nat.mod_lt _ h0), List.getD_eq_getElem?_getD, List.getElem?_eq_getElem (Nat.mod_lt _ h0)]; rfl
      · refine two _ ?_
        unfold lawCell; rw [if_pos h0]
    · have h0 : ¬ 0 < ns.length := by rw [List.length_map] at h; omega
      refine two _ ?_
      unfold lawCell; rw [if_neg h0]
def sp__law_row (K : PySem.W.Frag) : Sp := fun vs H Q _ => ∃ (a : Addr) (ns : List Int) (k : Nat), vs = [.ref a, .int (k : Int)] ∧ SqL K H a (ns.map V.int) ∧ Q (.int (lawRow ns k)) H
theorem sc__law_row : FnScope ["script", "k", "cell", "one", "two"] ["script", "k"] (defScope s__law_row) := ⟨rfl, rfl, rfl, by decide +kernel, rfl, by decide +kernel, by decide +kernel⟩
theorem ok__law_row (T : Txt K mg A) : FnOk P w K mg base CX0 2 A.f_law_row A.d_law_row ["script", "k"] (sp__law_row K) := by
  refine T.F_law_row.ok sc__law_row (fun vs H Q E h => ?_) (fun cdv Ar outer s H vs Q E hr h => ?_)
  · obtain ⟨a, ns, k, rfl, _⟩ := h
    rfl
  · obtain ⟨a, ns, k, rfl, hS, q⟩ := h
    refine ⟨_, (pss_cons (ps_set (i := 2) sc__law_row.nd rfl (Or.inl rfl) (pe_call (ok__law_cell T) (hr.mono (by decide)) rfl T.g_law_cell T.k_law_cell T.b_law_cell .nil pass0 (pa_cons (pv 0) (pa_cons (pv 1) pa_nil))))
      (pss_cons (ps_if (PW.pt (pw_and (pt_cmpR op_lt (pv 1) (pe_callB call_len_seq (by rfl) T.len PySem.boot_len (pa_cons (pv 0) pa_nil)) (nomark _)) (pw_and1 (pt_cmpR op_ge (pv 2) pe_int (nomark _)))))
      (pss_one (ps_ret (pv 2)))
      pss_nil)
      (pss_cons (ps_set (i := 3) sc__law_row.nd rfl (Or.inl rfl) (pe_op op_mod (pe_callTy call_int1 (by rfl) T.int (by decide +kernel) (pa_cons (pe_op op_add (pe_op op_add (pe_op op_mul (pv 2) pe_int) (pe_op op_mul (pv 1) pe_int)) pe_int) pa_nil)) pe_int))
      (pss_cons (ps_set (i := 4) sc__law_row.nd rfl (Or.inl rfl) (pe_op op_mod (pe_callTy call_int1 (by rfl) T.int (by decide +kernel) (pa_cons (pe_op op_add (pe_op op_add (pe_op op_mul (pv 3) (pv 3)) (pe_op op_mul pe_int (pv 1))) pe_int) pa_nil)) pe_int))
      (pss_one (ps_ret (pe_op op_add (pe_op op_mod (pe_callTy call_int1 (by rfl) T.int (by decide +kernel) (pa_cons (pe_op op_add (pe_op op_mul (pv 4) (pv 4)) (pv 3)) pa_nil)) pe_int) (pe_op op_mul pe_int (pe_op op_add (pv 3) pe_int))))))))), ?_⟩
    have b1 := lawOne_b (lawCell ns k) k
    have b2 := lawTwo_b (lawOne (lawCell ns k) k) k
    have m1 : CMul (lawOne (lawCell ns k) k) (lawOne (lawCell ns k) k) := Or.inl ⟨by omega, by omega⟩
    have m2 : CMul (lawTwo (lawOne (lawCell ns k) k) k) (lawTwo (lawOne (lawCell ns k) k) k) := Or.inl ⟨by omega, by omega⟩
    refine ⟨_, rfl, _, rfl, a, ns, k, rfl, hS, ?_⟩
    refine ⟨_, rfl, _, rfl, a, _, rfl, .inl hS, _, _, rfl, rfl, _, rfl, ?_⟩
    refine iteP (fun h => ?_) (fun h => ?_)
    · refine ⟨_, rfl, _, _, rfl, rfl, _, rfl, iteP (fun h2 => ?_) (fun h2 => ?_)⟩
      · have e : lawRow ns k = lawCell ns k := by unfold lawRow; rw [if_pos ⟨by rw [List.length_map] at h; omega, h2⟩]
        rw [e] at q
        exact ⟨_, rfl, q⟩
      · unfold lawRow at q
        rw [if_neg fun z => h2 z.2] at q
        walk_at "rd"
        refine ⟨m1, ?_⟩
        walk_at "rd"
        refine ⟨m2, ?_⟩
        walk_at "rd"
        exact q
    · unfold lawRow at q
      rw [if_neg fun z => h (by rw [List.length_map]; omega)] at q
      walk_at "rd"
      refine ⟨m1, ?_⟩
      walk_at "rd"
      refine ⟨m2, ?_⟩
      walk_at "rd"
      exact q
/-! ### is_integer, number_octets -/
def sp_is_integer (K : PySem.W.Frag) : Sp := fun vs H Q _ => ∃ (i lo hi : Int), vs = [.int i, .int lo, .int hi] ∧ Q (.bl (decide (lo ≤ i ∧ i ≤ hi))) H
theorem sc_is_integer : FnScope ["value", "least", "greatest"] ["value", "least", "greatest"] (defScope s_is_integer) := ⟨rfl, rfl, rfl, by decide +kernel, rfl, by decide +kernel, by decide +kernel⟩
theorem ok_is_integer (T : Txt K mg A) : FnOk P w K mg base CX0 1 A.fis_integer A.dis_integer ["value", "least", "greatest"] (sp_is_integer K) := by
  refine T.Fis_integer.ok sc_is_integer (fun vs H Q E h => ?_) (fun cdv Ar outer s H vs Q E hr h => ?_)
  · obtain ⟨i, lo, hi, rfl, _⟩ := h
    rfl
  · obtain ⟨i, lo, hi, rfl, q⟩ := h
    refine ⟨_, (pss_one (ps_ret (pe_and (pe_callB call_isi (by rfl) T.isinstance (by decide +kernel) (pa_cons (pv 0) (pa_cons (pe_bltn (v := .ty "int") (by rfl) T.int (by decide +kernel) rfl) pa_nil))) (pe_and (pe_not (pe_callB call_isi (by rfl) T.isinstance (by decide +kernel) (pa_cons (pv 0) (pa_cons (pe_bltn (v := .ty "bool") (by rfl) T.bool (by decide +kernel) rfl) pa_nil)))) (pe_one (pe_chain op_le op_le (pv 1) (pv 0) (pv 2))))))), ?_⟩
    refine ⟨_, rfl, .int i, .ty "int", .type "int", .type "int", true, rfl, .ty _, .base (.int _), kit_ty (by decide +kernel), _, rfl, iteT ?_⟩
    refine ⟨_, rfl, .int i, .ty "bool", .type "int", .type "bool", false, rfl, .ty _, .base (.int _), kit_ty (by decide +kernel), _, rfl, _, rfl, iteT ?_⟩
    refine ⟨_, rfl, _, rfl, _, _, rfl, rfl, _, rfl, iteP (fun h => ?_) (fun h => ?_)⟩
    · refine ⟨_, rfl, _, _, rfl, rfl, ?_⟩
      have e : decide (lo ≤ i ∧ i ≤ hi) = decide (i ≤ hi) := by
        by_cases c : i ≤ hi
        · rw [decide_eq_true c, decide_eq_true ⟨h, c⟩]
        · rw [decide_eq_false c, decide_eq_false fun z => c z.2]
      rw [e] at q
      exact q
    · rw [decide_eq_false fun z => h z.1] at q
      exact q
def octs (n : Int) (c : Nat) : List Int := (List.range c).map fun k => n / 2 ^ (8 * k) % 256
theorem octs_len (n : Int) (c : Nat) : (octs n c).length = c := by unfold octs; rw [List.length_map, List.length_range]
theorem octs_succ (n : Int) (c : Nat) : octs n (c + 1) = octs n c ++ [n / 2 ^ (8 * c) % 256] := by
  unfold octs; rw [List.range_succ, List.map_append]; rfl
theorem and255 {x : Int} (h : 0 ≤ x) : Builtin.bitAnd x 255 = x % 256 := Bits.bitAnd_mask 8 h
/-- number_octets(n, c), n not negative, c small: a new list -/
def sp_number_octets (K : PySem.W.Frag) : Sp := fun vs H Q _ => ∃ (n : Int) (c : Nat), vs = [.int n, .int (c : Int)] ∧ 0 ≤ n ∧ c ≤ 1000 ∧
  ∀ p H', H p = none → Same H H' → H' p = some (.lst ((octs n c).map V.int)) → Q (.ref p) H'
theorem sc_number_octets : FnScope ["number", "count", "place"] ["number", "count"] (defScope s_number_octets) := ⟨rfl, rfl, rfl, by decide +kernel, rfl, by decide +kernel, by decide +kernel⟩
theorem ok_number_octets (T : Txt K mg A) : FnOk P w K mg base CX0 1 A.fnumber_octets A.dnumber_octets ["number", "count"] (sp_number_octets K) := by
  refine T.Fnumber_octets.ok sc_number_octets (fun vs H Q E h => ?_) (fun cdv Ar outer s H vs Q E hr h => ?_)
  · obtain ⟨n, c, rfl, _⟩ := h
    rfl
  · obtain ⟨n, c, rfl, hn, hc, q⟩ := h
    refine ⟨_, (pss_one (ps_ret (pe_lc (own := [("place", 2)]) (g := gName 2) (tt := tYes) rfl sc_number_octets.nd (pi_range1 (by rfl) T.range (pa_cons (pv 1) pa_nil)) (blkOk_by (own := [("place", 2)]) (N := ["number", "count", "place"]) (sc := defScope s_number_octets) (by decide +kernel)) (fun _ _ _ _ _ => (pg_name (i := 2) sc_number_octets.nd rfl (Or.inl rfl))) (fun _ _ _ _ _ => pts_nil) (fun _ _ _ _ _ => (pe_op op_and (pe_op op_shr (pv 0) (pe_op op_mul pe_int (pv 2))) pe_int))))), ?_⟩
    refine ⟨_, rfl, (c : Int), rfl, by omega, by omega, fun D hD => ?_⟩
    refine lc_range (lo := 0) (n := ((c : Int)).toNat) (fun i H' => Same H H' ∧ H' D = some (.lst ((octs n i).map V.int))) ⟨same_upd hD, upd_same⟩ ?_ ?_
    · rintro i H1 hi ⟨hs, he⟩
      refine ⟨rfl, _, rfl, _, rfl, _, _, rfl, rfl, Or.inl ⟨by decide, by decide⟩, _, _, rfl, rfl, by show (0 : Int) ≤ _; omega, _, _, rfl, rfl, _, he, ?_, ?_, ?_⟩
      · rw [List.length_map, octs_len]; exact lt_line (by omega)
      · intro b o e
        rw [upd_ne (fun z => by rw [z, hD] at e; cases e)]
        exact hs b o e
      · rw [upd_same, octs_succ, List.map_append]
        have e1 : (8 * (0 + (i : Int))).toNat = 8 * i := by omega
        have e2 : Builtin.bitAnd (n / 2 ^ (8 * (0 + (i : Int))).toNat) 255 = n / 2 ^ (8 * i) % 256 := by
          rw [e1, and255 (Int.ediv_nonneg hn (Int.le_of_lt (Int.pow_pos (by decide))))]
        dsimp only
        rw [e2]
        rfl
    · rintro H1 ⟨hs, he⟩
      rw [show ((c : Int)).toNat = c by omega] at he
      exact q D H1 hD hs he
/-! ### is_text, _padded, _text_octets -/
def codeOk (c : Int) : Bool := decide (32 ≤ c ∧ c ≤ 126 ∧ c ≠ 37)
def isText (s : Str) : Bool := decide ((s.length : Int) ≤ 1000) && s.cps.toList.all (fun c : Nat => codeOk (c : Int))
def codesOf (s : Str) : List Int := s.cps.toList.map fun c : Nat => (c : Int)
def padN (n : Nat) : Nat := (-(n : Int) % 4).toNat
def pad (xs : List Int) : List Int := xs ++ List.replicate (padN xs.length) 0
theorem padN_lt (n : Nat) : padN n < 4 := by unfold padN; omega
theorem pad_len (xs : List Int) : (pad xs).length = xs.length + padN xs.length := by unfold pad; rw [List.length_append, List.length_replicate]
def textOcts (s : Str) : List Int := pad (octs (s.length + 1 : Int) 4 ++ codesOf s ++ [0])
theorem codesOf_len (z : Str) : (codesOf z).length = z.length := by unfold codesOf; rw [List.length_map]; exact (size_eq z).symm
theorem textOcts_len (z : Str) : (textOcts z).length ≤ z.length + 8 := by
  unfold textOcts
  rw [pad_len, List.length_append, List.length_append, octs_len, codesOf_len]
  have := padN_lt (4 + z.length + [(0 : Int)].length)
  show 4 + z.length + 1 + padN (4 + z.length + 1) ≤ _
  have h : padN (4 + z.length + 1) < 4 := padN_lt _
  omega
def sp__is_code (K : PySem.W.Frag) : Sp := fun vs H Q _ => ∃ (c : Int), vs = [.int c] ∧ Q (.bl (codeOk c)) H
theorem sc__is_code : FnScope ["code"] ["code"] (defScope s__is_code) := ⟨rfl, rfl, rfl, by decide +kernel, rfl, by decide +kernel, by decide +kernel⟩
theorem ok__is_code (T : Txt K mg A) : FnOk P w K mg base CX0 1 A.f_is_code A.d_is_code ["code"] (sp__is_code K) := by
  refine T.F_is_code.ok sc__is_code (fun vs H Q E h => ?_) (fun cdv Ar outer s H vs Q E hr h => ?_)
  · obtain ⟨c, rfl, _⟩ := h
    rfl
  · obtain ⟨c, rfl, q⟩ := h
    refine ⟨_, (pss_one (ps_ret (pe_and (pe_chain op_le op_le (pe_glob (v := .int (32)) rfl T.g_FIRST_CODE ⟨_, rfl⟩) (pv 0) (pe_glob (v := .int (126)) rfl T.g_LAST_CODE ⟨_, rfl⟩)) (pe_one (pe_cmpR op_ne (pv 0) (pe_glob (v := .int (37)) rfl T.g_PERCENT_CODE ⟨_, rfl⟩) (nomark _)))))), ?_⟩
    unfold codeOk at q
    refine ⟨_, rfl, _, _, rfl, rfl, _, rfl, iteP (fun h1 => ?_) (fun h1 => ?_)⟩
    · refine ⟨_, _, rfl, rfl, ?_⟩
      by_cases h2 : c ≤ 126
      · refine ⟨_, rfl, if_t (decide_eq_true h2) ⟨_, rfl, rfl, ?_⟩⟩
        by_cases h3 : c = 37
        · rw [decide_eq_false fun z => z.2.2 h3] at q
          rw [decide_eq_true (by rw [h3])]; exact q
        · rw [decide_eq_true ⟨h1, h2, h3⟩] at q
          rw [decide_eq_false fun z => h3 (V.int.inj z)]; exact q
      · refine ⟨_, rfl, if_f (decide_eq_false h2) ?_⟩
        rw [decide_eq_false fun z => h2 z.2.1] at q
        exact q
    · refine ⟨_, rfl, if_f rfl ?_⟩
      rw [decide_eq_false fun z => h1 z.1] at q; exact q
def sp_is_text (K : PySem.W.Frag) : Sp := fun vs H Q _ => ∃ (s : Str), vs = [.str s] ∧ s.length < 100000 ∧ ∀ H', Same H H' → Q (.bl (isText s)) H'
theorem sc_is_text : FnScope ["value", "character"] ["value"] (defScope s_is_text) := ⟨rfl, rfl, rfl, by decide +kernel, rfl, by decide +kernel, by decide +kernel⟩
theorem ok_is_text (T : Txt K mg A) : FnOk P w K mg base CX0 2 A.fis_text A.dis_text ["value"] (sp_is_text K) := by
  refine T.Fis_text.ok sc_is_text (fun vs H Q E h => ?_) (fun cdv Ar outer s H vs Q E hr h => ?_)
  · obtain ⟨c, rfl, _⟩ := h
    rfl
  · obtain ⟨z, rfl, hl, q⟩ := h
    refine ⟨_, (pss_one (ps_ret (pe_and (pe_cmpR op_le (pe_callB call_len_str (by rfl) T.len PySem.boot_len (pa_cons (pv 0) pa_nil)) (pe_glob (v := .int (1000)) rfl T.gLONGEST_TEXT ⟨_, rfl⟩) (nomark _)) (pe_one (pe_callB (cr_all rfl) (by rfl) T.all (by decide +kernel) (pa_cons (pe_lc (own := [("character", 1)]) (g := (gName 1)) (tt := tYes) rfl sc_is_text.nd (pi_str (pv 0)) (blkOk_by (own := [("character", 1)]) (N := ["value", "character"]) (sc := defScope s_is_text) (by decide +kernel)) (fun _ _ _ _ _ => (pg_name (i := 1) sc_is_text.nd rfl (Or.inl rfl))) (fun _ _ _ _ _ => pts_nil) (fun _ _ _ _ _ => by exact (pe_call (ok__is_code T) (hr.mono (by decide)) rfl T.g_is_code T.k_is_code T.b_is_code .nil pass0 (pa_cons (pe_callB call_ord (by rfl) T.ord (by decide +kernel) (pa_cons (pv 1) pa_nil)) pa_nil)))) pa_nil)))))), ?_⟩
    refine ⟨_, rfl, z, rfl, len_line (Nat.le_of_lt hl), _, _, rfl, rfl, _, rfl, iteP (fun h1 => ?_) (fun h1 => ?_)⟩
    · refine ⟨_, rfl, z, rfl, fun D hD => ?_⟩
      refine lc_dp (walk_str (z := z)) (K := K) (V0 := H) (H0 := H) (fun i => (z.cps[i]?).map fun c : Nat => PyData.bool (codeOk (c : Int))) [some (.str z), none] rfl (Same.refl _) hD (by show z.length < 100000; exact hl) (fun _ _ => trivial) (fun i x H H' y => y.1) ?_ ?_
      · rintro i x U H1 hi xx ⟨_, c, hc, rfl⟩ Qy Qn hy _
        refine ⟨rfl, _, rfl, _, rfl, rfl, _, rfl, ?_⟩
        exact hy _ _ _ _ (by rw [hc]; rfl) (Ext.refl xx.vh) (.bl _)
      · rintro U H1 _ xx _ _ dl
        rw [size_eq, show fm (fun i => (z.cps[i]?).map fun c : Nat => PyData.bool (codeOk (c : Int))) z.cps.toList.length = (z.cps.toList.map fun c : Nat => codeOk (c : Int)).map PyData.bool from by
          rw [List.map_map]; exact fm_list _ _ _ rfl _ fun i x hx => by rw [cps_at, hx]; rfl] at dl
        refine ⟨D, _, rfl, xx.vh.seq (dp_boolsL dl), ?_⟩
        have := q _ xx.hh
        unfold isText at this
        rw [decide_eq_true h1, Bool.true_and] at this
        rw [List.all_map]; exact this
    · have := q H (Same.refl H)
      unfold isText at this
      rw [decide_eq_false h1] at this
      exact this
/-- _padded(a list): a new list -/
def sp__padded (K : PySem.W.Frag) : Sp := fun vs H Q _ => ∃ (a : Addr) (xs : List Int), vs = [.ref a] ∧ H a = some (.lst (xs.map V.int)) ∧ xs.length < 90000 ∧ ∀ p H', NewL H H' p ((pad xs).map V.int) → Q (.ref p) H'
theorem sc__padded : FnScope ["octets"] ["octets"] (defScope s__padded) := ⟨rfl, rfl, rfl, by decide +kernel, rfl, by decide +kernel, by decide +kernel⟩
theorem ok__padded (T : Txt K mg A) : FnOk P w K mg base CX0 1 A.f_padded A.d_padded ["octets"] (sp__padded K) := by
  refine T.F_padded.ok sc__padded (fun vs H Q E h => ?_) (fun cdv Ar outer s H vs Q E hr h => ?_)
  · obtain ⟨a, xs, rfl, _⟩ := h
    rfl
  · obtain ⟨a, xs, rfl, ha, hl, q⟩ := h
    refine ⟨_, (pss_one (ps_ret (pe_op op_cat (pv 0) (pe_op op_rep (pe_lst (pa_cons pe_int pa_nil)) (pe_op op_mod (pe_un un_neg (pe_callB call_len_seq (by rfl) T.len PySem.boot_len (pa_cons (pv 0) pa_nil))) pe_int))))), ?_⟩
    refine ⟨_, rfl, by decide, fun p1 n1 => ?_⟩
    have ha1 : (upd H p1 (.lst [.int 0])) a = some (.lst (xs.map V.int)) := by rw [upd_ne (ne_of_none ha n1)]; exact ha
    have e1 : -((xs.map V.int).length : Int) % 4 = (padN xs.length : Int) := by rw [List.length_map]; unfold padN; omega
    have pl := padN_lt xs.length
    refine ⟨_, rfl, a, _, rfl, .inl (SqL.of ha1), _, rfl, _, _, rfl, rfl, by show (0 : Int) < 4; decide, p1, _, _, rfl, rfl, upd_same, ?_, ?_, ?_, fun p2 n2 => ?_⟩
    · omega
    · omega
    · exact len_line (by show 1 * _ ≤ _; omega)
    refine ⟨a, p2, _, _, rfl, rfl, by rw [upd_ne (ne_of_none ha1 n2)]; exact ha1, upd_same, ?_, fun p3 n3 => ?_⟩
    · rw [e1]
      exact len_line (by rw [rep_flat, List.length_map, List.length_replicate]; omega)
    refine q p3 _ ⟨?_, ?_, ?_⟩
    · exact (same_upd n1).free ((same_upd n2).free n3)
    · exact ((same_upd n1).trans (same_upd n2)).trans (same_upd n3)
    · rw [upd_same, e1]
      unfold pad
      rw [List.map_append, show ((padN xs.length : Nat) : Int).toNat = padN xs.length by omega]
      rw [rep_flat, List.map_replicate]
def sp__text_octets (K : PySem.W.Frag) : Sp := fun vs H Q _ => ∃ (s : Str), vs = [.str s] ∧ s.length < 80000 ∧ ∀ p H', NewL H H' p ((textOcts s).map V.int) → Q (.ref p) H'
theorem sc__text_octets : FnScope ["text", "codes", "character"] ["text"] (defScope s__text_octets) := ⟨rfl, rfl, rfl, by decide +kernel, rfl, by decide +kernel, by decide +kernel⟩
theorem ok__text_octets (T : Txt K mg A) : FnOk P w K mg base CX0 2 A.f_text_octets A.d_text_octets ["text"] (sp__text_octets K) := by
  refine T.F_text_octets.ok sc__text_octets (fun vs H Q E h => ?_) (fun cdv Ar outer s H vs Q E hr h => ?_)
  · obtain ⟨z, rfl, _⟩ := h
    rfl
  · obtain ⟨z, rfl, hl, q⟩ := h
    refine ⟨_, (pss_cons (ps_setLc (i := 1) (own := [("character", 2)]) (g := (gName 2)) (tt := tYes) rfl sc__text_octets.nd rfl rfl (sw_true rfl rfl rfl (by decide +kernel)) (pi_str (pv 0)) (blkOk_by (own := [("character", 2)]) (N := ["text", "codes", "character"]) (sc := defScope s__text_octets) (by decide +kernel)) (fun _ _ _ _ _ => (pg_name (i := 2) sc__text_octets.nd rfl (Or.inl rfl))) (fun _ _ _ _ _ => pts_nil) (fun _ _ _ _ _ => by exact (pe_callB call_ord (by rfl) T.ord (by decide +kernel) (pa_cons (pv 2) pa_nil))))
      (pss_one (ps_ret (pe_call (ok__padded T) (hr.mono (by decide)) rfl T.g_padded T.k_padded T.b_padded .nil pass0 (pa_cons (pe_op op_cat (pe_op op_cat (pe_call (ok_number_octets T) (hr.mono (by decide)) rfl T.gnumber_octets T.knumber_octets T.bnumber_octets .nil pass0 (pa_cons (pe_op op_add (pe_callB call_len_seq (by rfl) T.len PySem.boot_len (pa_cons (pv 1) pa_nil)) pe_int) (pa_cons pe_int pa_nil))) (pv 1)) (pe_lst (pa_cons pe_int pa_nil))) pa_nil))))), ?_⟩
    refine ⟨_, rfl, z, rfl, fun D hD => ?_⟩
    refine lc_dp (walk_str (z := z)) (K := K) (V0 := H) (H0 := H) (fun i => (z.cps[i]?).map fun c : Nat => PyData.int (c : Int)) [some (.str z), none, none] rfl (Same.refl _) hD (by show z.length < 100000; omega) (fun _ _ => trivial) (fun i x H H' y => y.1) ?_ ?_
    · rintro i x U H1 hi xx ⟨_, c, hc, rfl⟩ Qy Qn hy _
      refine ⟨rfl, _, rfl, _, rfl, rfl, ?_⟩
      exact hy _ _ _ _ (by rw [hc]; rfl) (Ext.refl xx.vh) (.int _)
    · rintro U H1 xs xx hDU dl _
      rw [size_eq, show fm (fun i => (z.cps[i]?).map fun c : Nat => PyData.int (c : Int)) z.cps.toList.length = (codesOf z).map PyData.int from by
          unfold codesOf; rw [List.map_map]; exact fm_list _ _ _ rfl _ fun i x hx => by rw [cps_at, hx]; rfl] at dl
      have hlc : (codesOf z).length = z.length := by unfold codesOf; rw [List.length_map]; exact (size_eq z).symm
      have exs := dp_intsV dl
      subst exs
      have h1D := xx.vh _ _ hDU
      have ev : ∀ (l : Int), l = z.length → (z.length : Int) + 1 = l + 1 := fun l e => by omega
      refine ⟨_, rfl, D, _, rfl, .inl (SqL.of h1D), _, _, rfl, rfl, _, 4, rfl, ?_, by decide, fun p H2 hp hs he => ?_⟩
      · omega
      have h2D := hs _ _ h1D
      rw [List.length_map, hlc] at he
      refine ⟨_, rfl, p, D, _, _, rfl, rfl, he, h2D, ?_, fun p3 n3 => ?_⟩
      · rw [List.length_map, List.length_map, octs_len, hlc]; exact len_line (by omega)
      refine ⟨by decide, fun p4 n4 => ?_⟩
      refine ⟨p3, p4, _, _, rfl, rfl, by rw [upd_ne (ne_of_none upd_same n4)]; exact upd_same, upd_same, ?_, fun p5 n5 => ?_⟩
      · rw [List.length_append, List.length_map, List.length_map, octs_len, hlc]; exact len_line (by show 4 + z.length + 1 ≤ _; omega)
      refine ⟨p5, octs (z.length + 1 : Int) 4 ++ codesOf z ++ [0], rfl, ?_, ?_, fun p6 H6 n6 => q p6 H6 ?_⟩
      · rw [upd_same, List.map_append, List.map_append]; rfl
      · rw [List.length_append, List.length_append, octs_len, hlc]; show 4 + z.length + 1 < 90000; omega
      · exact ⟨xx.hh.free (hs.free ((same_upd n3).free ((same_upd n4).free ((same_upd n5).free n6.new)))), xx.hh.trans (hs.trans ((same_upd n3).trans ((same_upd n4).trans ((same_upd n5).trans n6.same)))), n6.at_⟩
/-! ### the kinds -/
inductive NumKind : Str → Int → Int → Prop
  | uint : NumKind "uint" 0 4294967295
  | maybe : NumKind "maybe" 0 4294967295
  | int : NumKind "int" (-2147483648) 2147483647
  | object : NumKind "object" 1 4294967295
  | new : NumKind "new" 1 4294967295
inductive AV
  | num (i : Int)
  | txt (s : Str)
  | oct (xs : List Int)
  | bnd (s : Str) (n : Int)
def ArgAt (K : PySem.W.Frag) (H : Hp) (v : V) : AV → Prop
  | .num i => v = .int i
  | .txt s => v = .str s ∧ s.length < 80000
  | .oct xs => ∃ a, v = .ref a ∧ H a = some (.lst (xs.map V.int)) ∧ xs.length < 80000
  | .bnd s n => ∃ a, v = .ref a ∧ SqT K H a [.str s, .int n] ∧ s.length < 80000
theorem ArgAt.to {K : PySem.W.Frag} {H H' : Hp} {v : V} {x : AV} (h : ArgAt K H v x) (s : Same H H') : ArgAt K H' v x := by
  cases x with
  | num i => exact h
  | txt z => exact h
  | oct xs => obtain ⟨a, e, q, l⟩ := h; exact ⟨a, e, s _ _ q, l⟩
  | bnd z n => obtain ⟨a, e, q, l⟩ := h; exact ⟨a, e, s.sqt q, l⟩
def octsOk (xs : List Int) : Bool := decide (xs.length ≤ 16384) && xs.all fun x => decide (0 ≤ x ∧ x ≤ 255)
inductive ArgSpec : Str → AV → Bool → List Int → Prop
  | num {k : Str} {lo hi i : Int} (h : NumKind k lo hi) : ArgSpec k (.num i) (decide (lo ≤ i ∧ i ≤ hi)) (octs (i % 4294967296) 4)
  | txt {s : Str} : ArgSpec "text" (.txt s) (isText s) (textOcts s)
  | oct {xs : List Int} : ArgSpec "octets" (.oct xs) (octsOk xs) (pad (octs xs.length 4 ++ xs))
  | bnd {s : Str} {n : Int} : ArgSpec "bound" (.bnd s n) (isText s && decide (1 ≤ n ∧ n ≤ 4294967295)) (textOcts s ++ octs n 4)
def sp__are_octets (K : PySem.W.Frag) : Sp := fun vs H Q _ => ∃ (a : Addr) (xs : List Int), vs = [.ref a] ∧ H a = some (.lst (xs.map V.int)) ∧ xs.length < 80000 ∧ ∀ H', Same H H' → Q (.bl (octsOk xs)) H'
theorem sc__are_octets : FnScope ["value", "octet"] ["value"] (defScope s__are_octets) := ⟨rfl, rfl, rfl, by decide +kernel, rfl, by decide +kernel, by decide +kernel⟩
theorem ok__are_octets (T : Txt K mg A) : FnOk P w K mg base CX0 2 A.f_are_octets A.d_are_octets ["value"] (sp__are_octets K) := by
  refine T.F_are_octets.ok sc__are_octets (fun vs H Q E h => ?_) (fun cdv Ar outer s H vs Q E hr h => ?_)
  · obtain ⟨a, xs, rfl, _⟩ := h
    rfl
  · obtain ⟨a, xs, rfl, ha, hl, q⟩ := h
    refine ⟨_, (pss_cons (ps_if (PW.pt (pw_or (pt_not (pt_val (pe_callB call_isi (by rfl) T.isinstance (by decide +kernel) (pa_cons (pv 0) (pa_cons (pe_bltn (v := .ty "list") (by rfl) T.list (by decide +kernel) rfl) pa_nil))))) (pw_or1 (pt_cmpR op_gt (pe_callB call_len_seq (by rfl) T.len PySem.boot_len (pa_cons (pv 0) pa_nil)) (pe_glob (v := .int (16384)) rfl T.gMOST_OCTETS ⟨_, rfl⟩) (nomark _)))))
      (pss_one (ps_ret pe_bl))
      pss_nil)
      (pss_one (ps_ret (pe_callB (cr_all rfl) (by rfl) T.all (by decide +kernel) (pa_cons (pe_lc (own := [("octet", 1)]) (g := (gName 1)) (tt := tYes) rfl sc__are_octets.nd (pi_list (pv 0)) (blkOk_by (own := [("octet", 1)]) (N := ["value", "octet"]) (sc := defScope s__are_octets) (by decide +kernel)) (fun _ _ _ _ _ => (pg_name (i := 1) sc__are_octets.nd rfl (Or.inl rfl))) (fun _ _ _ _ _ => pts_nil) (fun _ _ _ _ _ => by exact (pe_call (ok_is_integer T) (hr.mono (by decide)) rfl T.gis_integer T.kis_integer T.bis_integer .nil pass0 (pa_cons (pv 1) (pa_cons pe_int (pa_cons pe_int pa_nil)))))) pa_nil))))), ?_⟩
    refine ⟨_, rfl, .ref a, .ty "list", .type "list", .type "list", true, rfl, .ty _, tyL (K := K) (SqL.of ha), kit_ty (by decide +kernel), _, rfl, if_f rfl ?_⟩
    refine ⟨_, rfl, a, _, rfl, .inl (SqL.of ha), _, _, rfl, rfl, _, rfl, iteP (fun h => ?_) (fun h => ?_)⟩
    · have := q H (Same.refl H)
      unfold octsOk at this
      rw [List.length_map] at h
      rw [decide_eq_false (show ¬ xs.length ≤ 16384 by omega)] at this
      exact this
    · rw [List.length_map] at h
      refine ⟨_, rfl, a, rfl, ⟨_, SqL.of ha⟩, fun D hD => ?_⟩
      refine lc_dp (walk_list (K := K) (a := a) (xs := xs.map V.int)) (K := K) (V0 := H) (H0 := H) (fun i => (xs[i]?).map fun x => PyData.bool (decide (0 ≤ x ∧ x ≤ 255))) [some (.ref a), none] rfl (Same.refl _) hD (by rw [List.length_map]; omega) (fun H' s => s.seq (SqL.of ha)) (fun i x H H' y => y.1) ?_ ?_
      · rintro i x U H1 hi xx ⟨_, hx⟩ Qy Qn hy _
        rw [List.getElem?_map] at hx
        obtain ⟨z, hz, rfl⟩ := Option.map_eq_some_iff.mp hx
        exact ⟨rfl, _, rfl, z, 0, 255, rfl, hy _ _ _ _ (by rw [hz]; rfl) (Ext.refl xx.vh) (.bl _)⟩
      · rintro U H1 _ xx _ _ dl
        rw [List.length_map, show fm (fun i => (xs[i]?).map fun x => PyData.bool (decide (0 ≤ x ∧ x ≤ 255))) xs.length = (xs.map fun x => decide (0 ≤ x ∧ x ≤ 255)).map PyData.bool from by
          rw [List.map_map]; exact fm_list _ _ _ rfl _ fun i x hx => by rw [hx]; rfl] at dl
        refine ⟨D, _, rfl, xx.vh.seq (dp_boolsL dl), ?_⟩
        have := q _ xx.hh
        unfold octsOk at this
        rw [decide_eq_true (show xs.length ≤ 16384 by omega), Bool.true_and] at this
        rw [List.all_map]; exact this
theorem sc__is_of : FnScope ["kind", "value"] ["kind", "value"] (defScope s__is_of) := ⟨rfl, rfl, rfl, by decide +kernel, rfl, by decide +kernel, by decide +kernel⟩
/-- the kinds but bound -/
def sp_is_of0 (K : PySem.W.Frag) : Sp := fun vs H Q _ => ∃ (kind : Str) (v : V) (x : AV) (ok : Bool) (os : List Int), vs = [.str kind, v] ∧ ArgSpec kind x ok os ∧ kind ≠ "bound" ∧ ArgAt K H v x ∧ ∀ H', Same H H' → Q (.bl ok) H'
theorem ok_is_of0 (T : Txt K mg A) : FnOk P w K mg base CX0 3 A.f_is_of A.d_is_of ["kind", "value"] (sp_is_of0 K) := by
  refine T.F_is_of.ok sc__is_of (fun vs H Q E h => ?_) (fun cdv Ar outer s H vs Q E hr h => ?_)
  · obtain ⟨kind, v, x, ok, os, rfl, _⟩ := h
    rfl
  · obtain ⟨kind, v, x, ok, os, rfl, hk, nb, ha, q⟩ := h
    refine ⟨_, (pss_cons (ps_if (PW.pt (pw_or (pt_cmpR op_eq (pv 0) pe_str (nomark _)) (pw_or1 (pt_cmpR op_eq (pv 0) pe_str (nomark _)))))
      (pss_one (ps_ret (pe_call (ok_is_integer T) (hr.mono (by decide)) rfl T.gis_integer T.kis_integer T.bis_integer .nil pass0 (pa_cons (pv 1) (pa_cons pe_int (pa_cons (pe_glob (v := .int (4294967295)) rfl T.gGREATEST_NUMBER ⟨_, rfl⟩) pa_nil))))))
      pss_nil)
      (pss_cons (ps_if (pt_cmpR op_eq (pv 0) pe_str (nomark _))
      (pss_one (ps_ret (pe_call (ok_is_integer T) (hr.mono (by decide)) rfl T.gis_integer T.kis_integer T.bis_integer .nil pass0 (pa_cons (pv 1) (pa_cons (pe_glob (v := .int (-2147483648)) rfl T.gLEAST_INT ⟨_, rfl⟩) (pa_cons (pe_glob (v := .int (2147483647)) rfl T.gGREATEST_INT ⟨_, rfl⟩) pa_nil))))))
      pss_nil)
      (pss_cons (ps_if (PW.pt (pw_or (pt_cmpR op_eq (pv 0) pe_str (nomark _)) (pw_or1 (pt_cmpR op_eq (pv 0) pe_str (nomark _)))))
      (pss_one (ps_ret (pe_call (ok_is_integer T) (hr.mono (by decide)) rfl T.gis_integer T.kis_integer T.bis_integer .nil pass0 (pa_cons (pv 1) (pa_cons pe_int (pa_cons (pe_glob (v := .int (4294967295)) rfl T.gGREATEST_NUMBER ⟨_, rfl⟩) pa_nil))))))
      pss_nil)
      (pss_cons (ps_if (pt_cmpR op_eq (pv 0) pe_str (nomark _))
      (pss_one (ps_ret (pe_and (pe_callB call_isi (by rfl) T.isinstance (by decide +kernel) (pa_cons (pv 1) (pa_cons (pe_bltn (v := .ty "str") (by rfl) T.str (by decide +kernel) rfl) pa_nil))) (pe_one (pe_call (ok_is_text T) (hr.mono (by decide)) rfl T.gis_text T.kis_text T.bis_text .nil pass0 (pa_cons (pv 1) pa_nil))))))
      pss_nil)
      (pss_cons (ps_if (pt_cmpR op_eq (pv 0) pe_str (nomark _))
      (pss_one (ps_ret (pe_call (ok__are_octets T) (hr.mono (by decide)) rfl T.g_are_octets T.k_are_octets T.b_are_octets .nil pass0 (pa_cons (pv 1) pa_nil))))
      pss_nil)
      (pss_one ps_never)))))), ?_⟩
    have q0 := q H (Same.refl H)
    cases hk with
    | num h =>
      rename_i lo hi i
      obtain rfl : v = .int i := ha
      cases h with
      | uint => exact ⟨_, rfl, rfl, _, rfl, if_t (by decide +kernel) (if_t rfl ⟨_, rfl, _, _, _, rfl, q0⟩)⟩
      | maybe => exact ⟨_, rfl, rfl, _, rfl, if_f (by decide +kernel) ⟨_, rfl, rfl, _, rfl, if_t (by decide +kernel) ⟨_, rfl, _, _, _, rfl, q0⟩⟩⟩
      | int =>
        refine ⟨_, rfl, rfl, _, rfl, if_f (by decide +kernel) ⟨_, rfl, rfl, _, rfl, if_f (by decide +kernel) ?_⟩⟩
        exact ⟨_, rfl, rfl, _, rfl, if_t (by decide +kernel) ⟨_, rfl, _, _, _, rfl, q0⟩⟩
      | object =>
        refine ⟨_, rfl, rfl, _, rfl, if_f (by decide +kernel) ⟨_, rfl, rfl, _, rfl, if_f (by decide +kernel) ?_⟩⟩
        refine ⟨_, rfl, rfl, _, rfl, if_f (by decide +kernel) ⟨_, rfl, rfl, _, rfl, if_t (by decide +kernel) (if_t rfl ⟨_, rfl, _, _, _, rfl, q0⟩)⟩⟩
      | new =>
        refine ⟨_, rfl, rfl, _, rfl, if_f (by decide +kernel) ⟨_, rfl, rfl, _, rfl, if_f (by decide +kernel) ?_⟩⟩
        refine ⟨_, rfl, rfl, _, rfl, if_f (by decide +kernel) ⟨_, rfl, rfl, _, rfl, if_f (by decide +kernel) ⟨_, rfl, rfl, _, rfl, if_t (by decide +kernel) ⟨_, rfl, _, _, _, rfl, q0⟩⟩⟩⟩
    | txt =>
      rename_i s
      obtain ⟨rfl, hl⟩ := ha
      refine ⟨_, rfl, rfl, _, rfl, if_f (by decide +kernel) ⟨_, rfl, rfl, _, rfl, if_f (by decide +kernel) ?_⟩⟩
      refine ⟨_, rfl, rfl, _, rfl, if_f (by decide +kernel) ⟨_, rfl, rfl, _, rfl, if_f (by decide +kernel) ⟨_, rfl, rfl, _, rfl, if_f (by decide +kernel) ?_⟩⟩⟩
      refine ⟨_, rfl, rfl, _, rfl, if_t (by decide +kernel) ?_⟩
      exact ⟨_, rfl, .str s, .ty "str", .type "str", .type "str", true, rfl, .ty _, .base (.str _), kit_ty (by decide +kernel), _, rfl, if_t rfl ⟨_, rfl, s, rfl, by omega, q⟩⟩
    | oct =>
      rename_i xs
      obtain ⟨a, rfl, ha, hl⟩ := ha
      refine ⟨_, rfl, rfl, _, rfl, if_f (by decide +kernel) ⟨_, rfl, rfl, _, rfl, if_f (by decide +kernel) ?_⟩⟩
      refine ⟨_, rfl, rfl, _, rfl, if_f (by decide +kernel) ⟨_, rfl, rfl, _, rfl, if_f (by decide +kernel) ⟨_, rfl, rfl, _, rfl, if_f (by decide +kernel) ?_⟩⟩⟩
      refine ⟨_, rfl, rfl, _, rfl, if_f (by decide +kernel) ?_⟩
      exact ⟨_, rfl, rfl, _, rfl, if_t (by decide +kernel) ⟨_, rfl, a, xs, rfl, ha, hl, q⟩⟩
    | bnd => exact absurd rfl nb
def sp__is_bound (K : PySem.W.Frag) : Sp := fun vs H Q _ => ∃ (a : Addr) (s : Str) (n : Int), vs = [.ref a] ∧ SqT K H a [.str s, .int n] ∧ s.length < 80000 ∧ ∀ H', Same H H' → Q (.bl (isText s && decide (1 ≤ n ∧ n ≤ 4294967295))) H'
theorem sc__is_bound : FnScope ["value"] ["value"] (defScope s__is_bound) := ⟨rfl, rfl, rfl, by decide +kernel, rfl, by decide +kernel, by decide +kernel⟩
theorem ok__is_bound (T : Txt K mg A) : FnOk P w K mg base CX0 4 A.f_is_bound A.d_is_bound ["value"] (sp__is_bound K) := by
  refine T.F_is_bound.ok sc__is_bound (fun vs H Q E h => ?_) (fun cdv Ar outer s H vs Q E hr h => ?_)
  · obtain ⟨a, s, n, rfl, _⟩ := h
    rfl
  · obtain ⟨a, z, n, rfl, ha, hl, q⟩ := h
    have ok__is_of : ∀ {A' : Adr} (T : Txt K mg A'), FnOk P w K mg base CX0 3 A'.f_is_of A'.d_is_of ["kind", "value"] (sp_is_of0 K) := fun T => ok_is_of0 T
    refine ⟨_, (pss_cons (ps_if (PW.pt (pw_or (pt_not (pt_val (pe_callB call_isi (by rfl) T.isinstance (by decide +kernel) (pa_cons (pv 0) (pa_cons (pe_bltn (v := .ty "tuple") (by rfl) T.tuple (by decide +kernel) rfl) pa_nil))))) (pw_or1 (pt_cmpR op_ne (pe_callB call_len_seq (by rfl) T.len PySem.boot_len (pa_cons (pv 0) pa_nil)) pe_int (nomark _)))))
      (pss_one (ps_ret pe_bl))
      pss_nil)
      (pss_one (ps_ret (pe_and (pe_call (ok__is_of T) (hr.mono (by decide)) rfl T.g_is_of T.k_is_of T.b_is_of .nil pass0 (pa_cons pe_str (pa_cons (pe_ix (r := rIxT K) ix_tup (pv 0) pe_int (fun _ _ => rfl)) pa_nil))) (pe_one (pe_call (ok__is_of T) (hr.mono (by decide)) rfl T.g_is_of T.k_is_of T.b_is_of .nil pass0 (pa_cons pe_str (pa_cons (pe_ix (r := rIxT K) ix_tup (pv 0) pe_int (fun _ _ => rfl)) pa_nil)))))))), ?_⟩
    refine ⟨_, rfl, .ref a, .ty "tuple", .type "tuple", .type "tuple", true, rfl, .ty _, tyT ha, kit_ty (by decide +kernel), _, rfl, if_f rfl ?_⟩
    refine ⟨_, rfl, a, _, rfl, .inr ha, rfl, _, rfl, if_f rfl ?_⟩
    refine ⟨_, rfl, a, _, 0, .str z, rfl, rfl, ha, atI_nat (j := 0) rfl, "text", .str z, .txt z, isText z, _, rfl, .txt, by decide +kernel, ⟨rfl, hl⟩, fun H' s => ⟨_, rfl, if_b (fun c => ?_) (fun c => ?_)⟩⟩
    · refine ⟨_, rfl, a, _, 1, .int n, rfl, rfl, s.sqt ha, atI_nat (j := 1) rfl, "new", .int n, .num n, _, _, rfl, .num .new, by decide +kernel, rfl, fun H2 s2 => ?_⟩
      have := q H2 (s.trans s2)
      rw [c, Bool.true_and] at this
      exact this
    · have := q H' s
      rw [c, Bool.false_and] at this
      exact this
def sp__is_of (K : PySem.W.Frag) : Sp := fun vs H Q _ => ∃ (kind : Str) (v : V) (x : AV) (ok : Bool) (os : List Int), vs = [.str kind, v] ∧ ArgSpec kind x ok os ∧ ArgAt K H v x ∧ ∀ H', Same H H' → Q (.bl ok) H'
theorem ok__is_of (T : Txt K mg A) : FnOk P w K mg base CX0 5 A.f_is_of A.d_is_of ["kind", "value"] (sp__is_of K) := by
  refine T.F_is_of.ok sc__is_of (fun vs H Q E h => ?_) (fun cdv Ar outer s H vs Q E hr h => ?_)
  · obtain ⟨kind, v, x, ok, os, rfl, _⟩ := h
    rfl
  · obtain ⟨kind, v, x, ok, os, rfl, hk, ha, q⟩ := h
    refine ⟨_, (pss_cons (ps_if (PW.pt (pw_or (pt_cmpR op_eq (pv 0) pe_str (nomark _)) (pw_or1 (pt_cmpR op_eq (pv 0) pe_str (nomark _)))))
      (pss_one (ps_ret (pe_call (ok_is_integer T) (hr.mono (by decide)) rfl T.gis_integer T.kis_integer T.bis_integer .nil pass0 (pa_cons (pv 1) (pa_cons pe_int (pa_cons (pe_glob (v := .int (4294967295)) rfl T.gGREATEST_NUMBER ⟨_, rfl⟩) pa_nil))))))
      pss_nil)
      (pss_cons (ps_if (pt_cmpR op_eq (pv 0) pe_str (nomark _))
      (pss_one (ps_ret (pe_call (ok_is_integer T) (hr.mono (by decide)) rfl T.gis_integer T.kis_integer T.bis_integer .nil pass0 (pa_cons (pv 1) (pa_cons (pe_glob (v := .int (-2147483648)) rfl T.gLEAST_INT ⟨_, rfl⟩) (pa_cons (pe_glob (v := .int (2147483647)) rfl T.gGREATEST_INT ⟨_, rfl⟩) pa_nil))))))
      pss_nil)
      (pss_cons (ps_if (PW.pt (pw_or (pt_cmpR op_eq (pv 0) pe_str (nomark _)) (pw_or1 (pt_cmpR op_eq (pv 0) pe_str (nomark _)))))
      (pss_one (ps_ret (pe_call (ok_is_integer T) (hr.mono (by decide)) rfl T.gis_integer T.kis_integer T.bis_integer .nil pass0 (pa_cons (pv 1) (pa_cons pe_int (pa_cons (pe_glob (v := .int (4294967295)) rfl T.gGREATEST_NUMBER ⟨_, rfl⟩) pa_nil))))))
      pss_nil)
      (pss_cons (ps_if (pt_cmpR op_eq (pv 0) pe_str (nomark _))
      (pss_one (ps_ret (pe_and (pe_callB call_isi (by rfl) T.isinstance (by decide +kernel) (pa_cons (pv 1) (pa_cons (pe_bltn (v := .ty "str") (by rfl) T.str (by decide +kernel) rfl) pa_nil))) (pe_one (pe_call (ok_is_text T) (hr.mono (by decide)) rfl T.gis_text T.kis_text T.bis_text .nil pass0 (pa_cons (pv 1) pa_nil))))))
      pss_nil)
      (pss_cons (ps_if (pt_cmpR op_eq (pv 0) pe_str (nomark _))
      (pss_one (ps_ret (pe_call (ok__are_octets T) (hr.mono (by decide)) rfl T.g_are_octets T.k_are_octets T.b_are_octets .nil pass0 (pa_cons (pv 1) pa_nil))))
      pss_nil)
      (pss_one (ps_ret (pe_and (pe_cmpR op_eq (pv 0) pe_str (nomark _)) (pe_one (pe_call (ok__is_bound T) (hr.mono (by decide)) rfl T.g_is_bound T.k_is_bound T.b_is_bound .nil pass0 (pa_cons (pv 1) pa_nil))))))))))), ?_⟩
    have q0 := q H (Same.refl H)
    cases hk with
    | num h =>
      rename_i lo hi i
      obtain rfl : v = .int i := ha
      cases h with
      | uint => exact ⟨_, rfl, rfl, _, rfl, if_t (by decide +kernel) (if_t rfl ⟨_, rfl, _, _, _, rfl, q0⟩)⟩
      | maybe => exact ⟨_, rfl, rfl, _, rfl, if_f (by decide +kernel) ⟨_, rfl, rfl, _, rfl, if_t (by decide +kernel) ⟨_, rfl, _, _, _, rfl, q0⟩⟩⟩
      | int =>
        refine ⟨_, rfl, rfl, _, rfl, if_f (by decide +kernel) ⟨_, rfl, rfl, _, rfl, if_f (by decide +kernel) ?_⟩⟩
        exact ⟨_, rfl, rfl, _, rfl, if_t (by decide +kernel) ⟨_, rfl, _, _, _, rfl, q0⟩⟩
      | object =>
        refine ⟨_, rfl, rfl, _, rfl, if_f (by decide +kernel) ⟨_, rfl, rfl, _, rfl, if_f (by decide +kernel) ?_⟩⟩
        refine ⟨_, rfl, rfl, _, rfl, if_f (by decide +kernel) ⟨_, rfl, rfl, _, rfl, if_t (by decide +kernel) (if_t rfl ⟨_, rfl, _, _, _, rfl, q0⟩)⟩⟩
      | new =>
        refine ⟨_, rfl, rfl, _, rfl, if_f (by decide +kernel) ⟨_, rfl, rfl, _, rfl, if_f (by decide +kernel) ?_⟩⟩
        refine ⟨_, rfl, rfl, _, rfl, if_f (by decide +kernel) ⟨_, rfl, rfl, _, rfl, if_f (by decide +kernel) ⟨_, rfl, rfl, _, rfl, if_t (by decide +kernel) ⟨_, rfl, _, _, _, rfl, q0⟩⟩⟩⟩
    | txt =>
      rename_i s
      obtain ⟨rfl, hl⟩ := ha
      refine ⟨_, rfl, rfl, _, rfl, if_f (by decide +kernel) ⟨_, rfl, rfl, _, rfl, if_f (by decide +kernel) ?_⟩⟩
      refine ⟨_, rfl, rfl, _, rfl, if_f (by decide +kernel) ⟨_, rfl, rfl, _, rfl, if_f (by decide +kernel) ⟨_, rfl, rfl, _, rfl, if_f (by decide +kernel) ?_⟩⟩⟩
      refine ⟨_, rfl, rfl, _, rfl, if_t (by decide +kernel) ?_⟩
      exact ⟨_, rfl, .str s, .ty "str", .type "str", .type "str", true, rfl, .ty _, .base (.str _), kit_ty (by decide +kernel), _, rfl, if_t rfl ⟨_, rfl, s, rfl, by omega, q⟩⟩
    | oct =>
      rename_i xs
      obtain ⟨a, rfl, ha, hl⟩ := ha
      refine ⟨_, rfl, rfl, _, rfl, if_f (by decide +kernel) ⟨_, rfl, rfl, _, rfl, if_f (by decide +kernel) ?_⟩⟩
      refine ⟨_, rfl, rfl, _, rfl, if_f (by decide +kernel) ⟨_, rfl, rfl, _, rfl, if_f (by decide +kernel) ⟨_, rfl, rfl, _, rfl, if_f (by decide +kernel) ?_⟩⟩⟩
      refine ⟨_, rfl, rfl, _, rfl, if_f (by decide +kernel) ?_⟩
      exact ⟨_, rfl, rfl, _, rfl, if_t (by decide +kernel) ⟨_, rfl, a, xs, rfl, ha, hl, q⟩⟩
    | bnd =>
      rename_i z n
      obtain ⟨a, rfl, ha, hl⟩ := ha
      refine ⟨_, rfl, rfl, _, rfl, if_f (by decide +kernel) ⟨_, rfl, rfl, _, rfl, if_f (by decide +kernel) ?_⟩⟩
      refine ⟨_, rfl, rfl, _, rfl, if_f (by decide +kernel) ⟨_, rfl, rfl, _, rfl, if_f (by decide +kernel) ⟨_, rfl, rfl, _, rfl, if_f (by decide +kernel) ?_⟩⟩⟩
      refine ⟨_, rfl, rfl, _, rfl, if_f (by decide +kernel) ?_⟩
      refine ⟨_, rfl, rfl, _, rfl, if_f (by decide +kernel) ?_⟩
      exact ⟨_, rfl, rfl, _, rfl, if_t (by decide +kernel) ⟨_, rfl, a, z, n, rfl, ha, hl, q⟩⟩
/-- field_octets: a new list, or BadMessage -/
def sp_field_octets (K : PySem.W.Frag) (C : Addr) : Sp := fun vs H Q E => ∃ (kind : Str) (v : V) (x : AV) (ok : Bool) (os : List Int), vs = [.str kind, v] ∧ ArgSpec kind x ok os ∧ ArgAt K H v x ∧
  (ok = true → ∀ p H', NewL H H' p (os.map V.int) → Q (.ref p) H') ∧ (ok = false → ∀ H', Same H H' → E (.ref C) none H')
theorem sc_field_octets : FnScope ["kind", "value", "text", "number"] ["kind", "value"] (defScope s_field_octets) := ⟨rfl, rfl, rfl, by decide +kernel, rfl, by decide +kernel, by decide +kernel⟩
theorem ok_field_octets (T : Txt K mg A) : FnOk P w K mg base (L2.CX P w) 6 A.ffield_octets A.dfield_octets ["kind", "value"] (sp_field_octets K A.CBadMessage) := by
  refine T.Ffield_octets.okX sc_field_octets (fun vs H Q E h => ?_) (fun cdv Ar outer s H vs Q E hr h => ?_)
  · obtain ⟨kind, v, x, ok, os, rfl, _⟩ := h
    rfl
  · obtain ⟨kind, v, x, ok, os, rfl, hk, ha, q, e⟩ := h
    refine ⟨_, (pss_cons (ps_if (pt_not (pt_val (pe_call (ok__is_of T) (hr.mono (by decide)) rfl T.g_is_of T.k_is_of T.b_is_of .nil pass0 (pa_cons (pv 0) (pa_cons (pv 1) pa_nil)))))
      (pss_one (ps_raise rfl (takes_of rfl rfl rfl rfl) (pmk_own PySem.F.excBase_ValueError T.xBadMessage T.gBadMessage T.kBadMessage (raises_own T.bxBadMessage T.txBadMessage) rfl)))
      pss_nil)
      (pss_cons (ps_if (pt_cmpR op_eq (pv 0) pe_str (nomark _))
      (pss_one (ps_ret (pe_call (ok__text_octets T) (hr.mono (by decide)) rfl T.g_text_octets T.k_text_octets T.b_text_octets .nil pass0 (pa_cons (pv 1) pa_nil))))
      pss_nil)
      (pss_cons (ps_if (pt_cmpR op_eq (pv 0) pe_str (nomark _))
      (pss_one (ps_ret (pe_call (ok__padded T) (hr.mono (by decide)) rfl T.g_padded T.k_padded T.b_padded .nil pass0 (pa_cons (pe_op op_cat (pe_call (ok_number_octets T) (hr.mono (by decide)) rfl T.gnumber_octets T.knumber_octets T.bnumber_octets .nil pass0 (pa_cons (pe_callB call_len_seq (by rfl) T.len PySem.boot_len (pa_cons (pv 1) pa_nil)) (pa_cons pe_int pa_nil))) (pv 1)) pa_nil))))
      pss_nil)
      (pss_cons (ps_if (pt_cmpR op_eq (pv 0) pe_str (nomark _))
      (pss_cons (ps_asg (pv 1) (pg_tup rfl (pgs_cons (pg_name (i := 2) sc_field_octets.nd rfl (Or.inl rfl)) (pgs_cons (pg_name (i := 3) sc_field_octets.nd rfl (Or.inl rfl)) pgs_nil))))
      (pss_one (ps_ret (pe_op op_cat (pe_call (ok__text_octets T) (hr.mono (by decide)) rfl T.g_text_octets T.k_text_octets T.b_text_octets .nil pass0 (pa_cons (pv 2) pa_nil)) (pe_call (ok_number_octets T) (hr.mono (by decide)) rfl T.gnumber_octets T.knumber_octets T.bnumber_octets .nil pass0 (pa_cons (pv 3) (pa_cons pe_int pa_nil)))))))
      pss_nil)
      (pss_one (ps_ret (pe_call (ok_number_octets T) (hr.mono (by decide)) rfl T.gnumber_octets T.knumber_octets T.bnumber_octets .nil pass0 (pa_cons (pe_op op_mod (pv 1) (pe_op op_pow pe_int pe_int)) (pa_cons pe_int pa_nil))))))))), ?_⟩
    refine ⟨_, rfl, _, rfl, kind, v, x, ok, os, rfl, hk, ha, fun H1 s1 => ⟨_, rfl, if_b (fun c => ?_) (fun c => ?_)⟩⟩
    · refine e ?_ H1 s1
      cases ok
      · rfl
      · cases c
    have hok : ok = true := by cases ok; · cases c
                               · rfl
    replace q : ∀ p H', NewL H H' p (os.map V.int) → Q (.ref p) H' := q hok
    replace ha := ha.to s1
    clear e c
    cases hk with
    | num h =>
      rename_i lo hi i
      obtain rfl : v = .int i := ha
      have hne : kind ≠ "text" ∧ kind ≠ "octets" ∧ kind ≠ "bound" := by cases h <;> exact ⟨by decide +kernel, by decide +kernel, by decide +kernel⟩
      refine ⟨_, rfl, rfl, _, rfl, if_f (decide_eq_false fun z => hne.1 (V.str.inj z)) ?_⟩
      refine ⟨_, rfl, rfl, _, rfl, if_f (decide_eq_false fun z => hne.2.1 (V.str.inj z)) ?_⟩
      refine ⟨_, rfl, rfl, _, rfl, if_f (decide_eq_false fun z => hne.2.2 (V.str.inj z)) ?_⟩
      refine ⟨_, rfl, _, _, rfl, rfl, ⟨by decide, by decide, by decide⟩, _, _, rfl, rfl, by show (0 : Int) < 2 ^ (32 : Int).toNat; decide +kernel, ?_⟩
      have e2 : i % 2 ^ (32 : Int).toNat = i % 4294967296 := by rw [show (2 : Int) ^ (32 : Int).toNat = 4294967296 by decide +kernel]
      refine ⟨_, 4, rfl, ?_, by decide, ?_⟩
      · rw [e2]; omega
      · rw [e2]; exact fun p H' hp hs he => q p H' ⟨s1.free hp, s1.trans hs, he⟩
    | txt =>
      rename_i z
      obtain ⟨rfl, hl⟩ := ha
      refine ⟨_, rfl, rfl, _, rfl, if_t (by decide +kernel) ⟨_, rfl, z, rfl, hl, fun p H' n => q p H' ⟨s1.free n.new, s1.trans n.same, n.at_⟩⟩⟩
    | oct =>
      rename_i xs
      obtain ⟨a, rfl, ha, hl⟩ := ha
      refine ⟨_, rfl, rfl, _, rfl, if_f (by decide +kernel) ⟨_, rfl, rfl, _, rfl, if_t (by decide +kernel) ?_⟩⟩
      refine ⟨_, rfl, a, _, rfl, .inl (SqL.of ha), _, 4, rfl, by omega, by decide, fun p H2 hp hs he => ?_⟩
      rw [List.length_map] at he
      refine ⟨_, rfl, p, a, _, _, rfl, rfl, he, hs _ _ ha, ?_, fun p3 n3 => ?_⟩
      · rw [List.length_map, List.length_map, octs_len]; exact len_line (by omega)
      refine ⟨p3, octs xs.length 4 ++ xs, rfl, by rw [upd_same, List.map_append], by rw [List.length_append, octs_len]; omega, fun p4 H4 n4 => q p4 H4 ?_⟩
      exact ⟨s1.free (hs.free ((same_upd n3).free n4.new)), s1.trans (hs.trans ((same_upd n3).trans n4.same)), n4.at_⟩
    | bnd =>
      rename_i z n
      obtain ⟨a, rfl, ha, hl⟩ := ha
      refine ⟨_, rfl, rfl, _, rfl, if_f (by decide +kernel) ⟨_, rfl, rfl, _, rfl, if_f (by decide +kernel) ⟨_, rfl, rfl, _, rfl, if_t (by decide +kernel) ?_⟩⟩⟩
      refine ⟨_, rfl, a, _, rfl, ha, rfl, _, _, rfl, _, _, rfl, rfl, ?_⟩
      refine ⟨_, rfl, z, rfl, hl, fun p2 H2 n2 => ?_⟩
      refine ⟨_, rfl, n, 4, rfl, ?_, by decide, fun p3 H3 n3 s3 e3 => ?_⟩
      · have h2 := (Bool.and_eq_true_iff.mp hok).2
        have h3 := of_decide_eq_true h2
        omega
      refine ⟨p2, p3, _, _, rfl, rfl, s3 _ _ n2.at_, e3, ?_, fun p4 n4 => q p4 _ ⟨?_, ?_, ?_⟩⟩
      · rw [List.length_map, List.length_map, octs_len]; have := textOcts_len z; exact len_line (by omega)
      · exact s1.free (n2.same.free (s3.free n4))
      · exact s1.trans (n2.same.trans (s3.trans (same_upd n4)))
      · rw [upd_same, List.map_append]
/-! ### the law's signs -/
def signs1 : Str := " !\"#$&'()*+,-./0123456789:;<=>?@ABCDEFGHIJKLMNOPQRSTUVWXYZ[\\]^_`"
def signs2 : Str := "abcdefghijklmnopqrstuvwxyz{|}~"
theorem signs_len : (signs1 ++ signs2).cps.toList.length = 94 := by decide +kernel
theorem signs_ok : (signs1 ++ signs2).cps.toList.all (fun c : Nat => codeOk (c : Int)) = true := by decide +kernel
def okCodes (cs : List Nat) : Prop := ∀ c ∈ cs, codeOk (c : Int) = true
theorem at_of' {α : Type} {xs : List α} {z : Int} {j : Nat} {v : α} (e : z = (j : Int)) (h : xs[j]? = some v) : atI xs z = some v := by
  rw [e]
  exact atI_nat h
def signAt (d : Int) : Nat := (signs1 ++ signs2).cps.toList.getD (d % 94).toNat 32
theorem signAt_ok (d : Int) : codeOk (signAt d : Int) = true := by
  have hl := signs_len
  have hj : (d % 94).toNat < (signs1 ++ signs2).cps.toList.length := by omega
  unfold signAt
  rw [List.getD_eq_getElem?_getD, List.getElem?_eq_getElem hj]
  exact List.all_eq_true.mp signs_ok _ (List.getElem_mem hj)
def sp__law_sign (K : PySem.W.Frag) : Sp := fun vs H Q _ => ∃ (d : Int), vs = [.int d] ∧ Q (.str ⟨#[signAt d]⟩) H
theorem sc__law_sign : FnScope ["digit", "signs"] ["digit"] (defScope s__law_sign) := ⟨rfl, rfl, rfl, by decide +kernel, rfl, by decide +kernel, by decide +kernel⟩
theorem ok__law_sign (T : Txt K mg A) : FnOk P w K mg base CX0 1 A.f_law_sign A.d_law_sign ["digit"] (sp__law_sign K) := by
  refine T.F_law_sign.ok sc__law_sign (fun vs H Q E h => ?_) (fun cdv Ar outer s H vs Q E hr h => ?_)
  · obtain ⟨d, rfl, _⟩ := h
    rfl
  · obtain ⟨d, rfl, q⟩ := h
    refine ⟨_, (pss_cons (ps_set (i := 1) sc__law_sign.nd rfl (Or.inl rfl) pe_str)
      (pss_cons (ps_set (i := 1) sc__law_sign.nd rfl (Or.inl rfl) (pe_op op_add_str (pv 1) pe_str))
      (pss_one (ps_ret (pe_ix (r := rIxS) ix_str (pv 1) (pe_op op_mod (pe_callTy call_int1 (by rfl) T.int (by decide +kernel) (pa_cons (pv 0) pa_nil)) pe_int) (fun _ _ => rfl)))))), ?_⟩
    have hl := signs_len
    have hj : (d % 94).toNat < (signs1 ++ signs2).cps.toList.length := by omega
    refine ⟨_, rfl, _, _, rfl, rfl, by decide +kernel, _, rfl, _, rfl, Or.inl ⟨_, rfl, ?_⟩⟩
    refine ⟨_, _, rfl, rfl, by show (0 : Int) < 94; decide, signs1 ++ signs2, _, (signs1 ++ signs2).cps.toList[(d % 94).toNat], rfl, rfl, by decide +kernel, ?_, ?_⟩
    · exact at_of' (by omega) (List.getElem?_eq_getElem hj)
    · unfold signAt at q
      rw [List.getD_eq_getElem?_getD, List.getElem?_eq_getElem hj] at q
      exact q
theorem join_singles (cs : List Nat) : Txt.join ⟨#[]⟩ (cs.map fun c => (⟨#[c]⟩ : Str)) = ⟨cs.toArray⟩ := by
  have h := SX.join_S [] (cs.map fun c => [c])
  rw [List.map_map] at h
  have e : ∀ l : List Nat, TL.joinL [] (l.map fun c => [c]) = l := by
    intro l
    induction l with
    | nil => rfl
    | cons a l ih =>
      cases l with
      | nil => rfl
      | cons b l => exact congrArg (a :: ·) ih
  rw [e] at h
  exact h
/-! ### _law_octets -/
def lawOcts (r : Int) (n : Nat) : List Int := (List.range n).map fun k : Nat => (r / ((k : Int) % 9 + 1) + (k : Int) * (r % 251)) % 256
theorem lawOcts_len (r : Int) (n : Nat) : (lawOcts r n).length = n := by unfold lawOcts; rw [List.length_map, List.length_range]
theorem lawOcts_ok (r : Int) (n : Nat) : (lawOcts r n).all (fun x => decide (0 ≤ x ∧ x ≤ 255)) = true := by
  rw [List.all_eq_true]
  intro x hx
  obtain ⟨k, _, rfl⟩ := List.mem_map.mp hx
  refine decide_eq_true ?_
  omega
def sp__law_octets (K : PySem.W.Frag) : Sp := fun vs H Q _ => ∃ (r : Int) (n : Nat), vs = [.int r, .int (n : Int)] ∧ n < 80000 ∧ ∀ p H', NewL H H' p ((lawOcts r n).map V.int) → Q (.ref p) H'
theorem sc__law_octets : FnScope ["row", "size", "k"] ["row", "size"] (defScope s__law_octets) := ⟨rfl, rfl, rfl, by decide +kernel, rfl, by decide +kernel, by decide +kernel⟩
theorem ok__law_octets (T : Txt K mg A) : FnOk P w K mg base CX0 1 A.f_law_octets A.d_law_octets ["row", "size"] (sp__law_octets K) := by
  refine T.F_law_octets.ok sc__law_octets (fun vs H Q E h => ?_) (fun cdv Ar outer s H vs Q E hr h => ?_)
  · obtain ⟨r, n, rfl, _⟩ := h
    rfl
  · obtain ⟨r, n, rfl, hn, q⟩ := h
    refine ⟨_, (pss_one (ps_ret (pe_lc (own := [("k", 2)]) (g := (gName 2)) (tt := tYes) rfl sc__law_octets.nd (pi_range1 (by rfl) T.range (pa_cons (pv 1) pa_nil)) (blkOk_by (own := [("k", 2)]) (N := ["row", "size", "k"]) (sc := defScope s__law_octets) (by decide +kernel)) (fun _ _ _ _ _ => (pg_name (i := 2) sc__law_octets.nd rfl (Or.inl rfl))) (fun _ _ _ _ _ => pts_nil) (fun _ _ _ _ _ => by exact (pe_op op_mod (pe_callTy call_int1 (by rfl) T.int (by decide +kernel) (pa_cons (pe_op op_add (pe_op op_fdiv (pv 0) (pe_op op_add (pe_op op_mod (pv 2) pe_int) pe_int)) (pe_op op_mul (pv 2) (pe_op op_mod (pv 0) pe_int))) pa_nil)) pe_int))))), ?_⟩
    refine ⟨_, rfl, (n : Int), rfl, by omega, by omega, fun D hD => ?_⟩
    refine lc_dp (walk_range (lo := 0) (n := (n : Int).toNat)) (K := K) (V0 := H) (H0 := H) (fun k => some (PyData.int ((r / ((k : Int) % 9 + 1) + (k : Int) * (r % 251)) % 256))) [some (.int r), some (.int (n : Int)), none] rfl (Same.refl _) hD (by omega) (fun _ _ => trivial) (fun i x H H' y => y.1) ?_ ?_
    · rintro i x U H1 hi xx ⟨_, rfl⟩ Qy Qn hy _
      refine ⟨rfl, _, rfl, _, rfl, _, _, rfl, rfl, by show (0 : Int) < 9; decide, _, _, rfl, rfl, _, _, rfl, rfl, ⟨?_, ?_⟩, _, rfl, _, rfl, _, _, rfl, rfl, by show (0 : Int) < 251; decide, _, _, rfl, rfl, Or.inr ⟨by omega, by omega⟩, _, _, rfl, rfl, Or.inl ⟨_, rfl, ?_⟩⟩
      · show (0 : Int) < (0 + (i : Int)) % 9 + 1; omega
      · show (0 + (i : Int)) % 9 + 1 < 1073741824; omega
      refine ⟨_, _, rfl, rfl, by show (0 : Int) < 256; decide, ?_⟩
      rw [Int.zero_add]
      exact hy _ _ _ _ rfl (Ext.refl xx.vh) (.int _)
    · rintro U H1 xs xx hDU dl _
      rw [show (n : Int).toNat = n by omega, fm_some, show ((List.range n).map fun k : Nat => PyData.int ((r / ((k : Int) % 9 + 1) + (k : Int) * (r % 251)) % 256)) = (lawOcts r n).map PyData.int from by unfold lawOcts; rw [List.map_map]; rfl] at dl
      have e := dp_intsV dl
      subst e
      exact q D H1 ⟨hD, xx.hh, xx.vh _ _ hDU⟩
/-! ### _law_text, a comprehension -/
def lawText (r : Int) (n : Nat) : List Nat := (List.range n).map fun k : Nat => signAt (r / ((k : Int) % 7 + 1) + (k : Int) * (r % 93 + 1))
theorem lawText_len (r : Int) (n : Nat) : (lawText r n).length = n := by unfold lawText; rw [List.length_map, List.length_range]
theorem lawText_ok (r : Int) (n : Nat) : okCodes (lawText r n) := by
  intro c hc
  obtain ⟨k, _, rfl⟩ := List.mem_map.mp hc
  exact signAt_ok _
def lawTextS (r : Int) (n : Nat) : Str := ⟨(lawText r n).toArray⟩
theorem lawTextS_len (r : Int) (n : Nat) : (lawTextS r n).length = n := by show (lawText r n).toArray.size = n; rw [List.size_toArray, lawText_len]
theorem lawTextS_ok (r : Int) (n : Nat) : okCodes (lawTextS r n).cps.toList := by show okCodes (lawText r n).toArray.toList; simpa using lawText_ok r n
def sp__law_text (K : PySem.W.Frag) : Sp := fun vs H Q _ => ∃ (r : Int) (n : Nat), vs = [.int r, .int (n : Int)] ∧ n < 70000 ∧ ∀ H', Same H H' → Q (.str (lawTextS r n)) H'
theorem sc__law_text : FnScope ["row", "size", "k"] ["row", "size"] (defScope s__law_text) := ⟨rfl, rfl, rfl, by decide +kernel, rfl, by decide +kernel, by decide +kernel⟩
theorem ok__law_text (T : Txt K mg A) : FnOk P w K mg base CX0 2 A.f_law_text A.d_law_text ["row", "size"] (sp__law_text K) := by
  refine T.F_law_text.ok sc__law_text (fun vs H Q E h => ?_) (fun cdv Ar outer s H vs Q E hr h => ?_)
  · obtain ⟨r, n, rfl, _⟩ := h
    rfl
  · obtain ⟨r, n, rfl, hn, q⟩ := h
    refine ⟨_, (pss_one (ps_ret (pe_join pe_str (pe_lc (own := [("k", 2)]) (g := (gName 2)) (tt := tYes) rfl sc__law_text.nd (pi_range1 (by rfl) T.range (pa_cons (pv 1) pa_nil)) (blkOk_by (own := [("k", 2)]) (N := ["row", "size", "k"]) (sc := defScope s__law_text) (by decide +kernel)) (fun _ _ _ _ _ => (pg_name (i := 2) sc__law_text.nd rfl (Or.inl rfl))) (fun _ _ _ _ _ => pts_nil) (fun _ _ _ _ _ => by exact (pe_call (ok__law_sign T) (hr.mono (by decide)) rfl T.g_law_sign T.k_law_sign T.b_law_sign .nil pass0 (pa_cons (pe_op op_add (pe_callTy call_int1 (by rfl) T.int (by decide +kernel) (pa_cons (pe_op op_fdiv (pv 0) (pe_op op_add (pe_op op_mod (pv 2) pe_int) pe_int)) pa_nil)) (pe_op op_mul (pv 2) (pe_op op_add (pe_op op_mod (pe_callTy call_int1 (by rfl) T.int (by decide +kernel) (pa_cons (pv 0) pa_nil)) pe_int) pe_int))) pa_nil))))))), ?_⟩
    refine ⟨⟨_, rfl⟩, _, rfl, (n : Int), rfl, by omega, by omega, fun D hD => ?_⟩
    refine lc_dp (walk_range (lo := 0) (n := (n : Int).toNat)) (K := K) (V0 := H) (H0 := H) (fun k => some (PyData.str ⟨#[signAt (r / ((k : Int) % 7 + 1) + (k : Int) * (r % 93 + 1))]⟩)) [some (.int r), some (.int (n : Int)), none] rfl (Same.refl _) hD (by omega) (fun _ _ => trivial) (fun i x H H' y => y.1) ?_ ?_
    · rintro i x U H1 hi xx ⟨_, rfl⟩ Qy Qn hy _
      refine ⟨rfl, _, rfl, _, rfl, _, _, rfl, rfl, by show (0 : Int) < 7; decide, _, _, rfl, rfl, _, _, rfl, rfl, ⟨?_, ?_⟩, Or.inl ⟨_, rfl, ?_⟩⟩
      · show (0 : Int) < (0 + (i : Int)) % 7 + 1; omega
      · show (0 + (i : Int)) % 7 + 1 < 1073741824; omega
      refine ⟨_, rfl, _, rfl, Or.inl ⟨_, rfl, ?_⟩⟩
      refine ⟨_, _, rfl, rfl, by show (0 : Int) < 93; decide, _, _, rfl, rfl, _, _, rfl, rfl, Or.inr ⟨by omega, by omega⟩, _, _, rfl, rfl, _, rfl, ?_⟩
      rw [Int.zero_add]
      exact hy _ _ _ _ rfl (Ext.refl xx.vh) (.str _)
    · rintro U H1 xs xx hDU dl _
      rw [show (n : Int).toNat = n by omega, fm_some, show ((List.range n).map fun k : Nat => PyData.str ⟨#[signAt (r / ((k : Int) % 7 + 1) + (k : Int) * (r % 93 + 1))]⟩) = ((lawText r n).map fun c => (⟨#[c]⟩ : Str)).map PyData.str from by unfold lawText; rw [List.map_map, List.map_map]; rfl] at dl
      have e := dp_strsV dl
      subst e
      refine ⟨⟨#[]⟩, D, (lawText r n).map fun c => (⟨#[c]⟩ : Str), by decide +kernel, rfl, .inl (SqL.of (xx.vh _ _ hDU)), ?_, ?_⟩
      · have e : ∀ cs : List Nat, ((cs.map fun c => (⟨#[c]⟩ : Str)).map (·.length)).sum = cs.length := by
          intro cs
          induction cs with
          | nil => rfl
          | cons c cs ih => rw [List.map_cons, List.map_cons, List.sum_cons, ih]; show 1 + cs.length = cs.length + 1; omega
        rw [e, lawText_len]; show n + _ * 0 ≤ _; omega
      · rw [join_singles]
        exact q _ xx.hh
/-! ### arguments: kind, value, octets -/
structure Arg where
  kind : Str
  val : AV
  os : List Int
def bodyOf (args : List Arg) : List Int := args.flatMap Arg.os
theorem body_take {args : List Arg} {i : Nat} {g : Arg} (h : args[i]? = some g) : bodyOf (args.take (i + 1)) = bodyOf (args.take i) ++ g.os := fl_take' Arg.os args i g h
theorem body_le (args : List Arg) (i : Nat) : (bodyOf (args.take i)).length ≤ (bodyOf args).length := fl_le' Arg.os args i
theorem body_len_le {args : List Arg} {c : Nat} (h : ∀ g ∈ args, g.os.length ≤ c) : (bodyOf args).length ≤ c * args.length := by
  induction args with
  | nil => exact Nat.zero_le _
  | cons g r ih =>
    show (g.os ++ bodyOf r).length ≤ c * (r.length + 1)
    rw [List.length_append, Nat.mul_succ]
    have := ih fun x hx => h x (List.mem_cons_of_mem _ hx)
    have := h g List.mem_cons_self
    omega
/-! ### _law_kind, _law_value -/
def kindsL : List Str := ["uint", "int", "text", "octets", "object", "maybe", "new", "bound"]
def sp__law_kind (K : PySem.W.Frag) : Sp := fun vs H Q _ => ∃ (d : Int), vs = [.int d] ∧ ∀ (k : Str) H', Same H H' → k ∈ kindsL → Q (.str k) H'
theorem sc__law_kind : FnScope ["digit"] ["digit"] (defScope s__law_kind) := ⟨rfl, rfl, rfl, by decide +kernel, rfl, by decide +kernel, by decide +kernel⟩
theorem ok__law_kind (T : Txt K mg A) : FnOk P w K mg base CX0 1 A.f_law_kind A.d_law_kind ["digit"] (sp__law_kind K) := by
  refine T.F_law_kind.ok sc__law_kind (fun vs H Q E h => ?_) (fun cdv Ar outer s H vs Q E hr h => ?_)
  · obtain ⟨d, rfl, _⟩ := h
    rfl
  · obtain ⟨d, rfl, q⟩ := h
    refine ⟨_, (pss_one (ps_ret (pe_ix (r := rIxT K) ix_tup (pe_tup (pa_cons pe_str (pa_cons pe_str (pa_cons pe_str (pa_cons pe_str (pa_cons pe_str (pa_cons pe_str (pa_cons pe_str (pa_cons pe_str pa_nil))))))))) (pe_op op_mod (pe_callTy call_int1 (by rfl) T.int (by decide +kernel) (pa_cons (pv 0) pa_nil)) pe_int) (fun _ _ => rfl)))), ?_⟩
    refine ⟨len_line (by show 8 ≤ 100000; decide), fun p hp => ?_⟩
    walk_at "rd"
    have hj : (d % 8).toNat < kindsL.length := by show _ < 8; omega
    refine ⟨p, _, _, .str (kindsL[(d % 8).toNat]), rfl, rfl, SqT.of upd_same, at_of (j := (d % 8).toNat) (by omega) ?_, q _ _ (same_upd hp) (List.getElem_mem hj)⟩
    show (kindsL.map V.str)[(d % 8).toNat]? = _
    rw [List.getElem?_map, List.getElem?_eq_getElem hj]; rfl
/-- a value of the kind, new in what it holds -/
def sp__law_value (K : PySem.W.Frag) : Sp := fun vs H Q _ => ∃ (kind : Str) (r : Int) (U : Hp), vs = [.str kind, .int r] ∧ kind ∈ kindsL ∧ Same U H ∧ ∀ (v : V) (x : AV) (os : List Int) (U' H' : Hp), Ext U H U' H' → ArgSpec kind x true os → ArgAt K U' v x → os.length ≤ 60 → Q v H'
theorem sc__law_value : FnScope ["kind", "row", "big"] ["kind", "row"] (defScope s__law_value) := ⟨rfl, rfl, rfl, by decide +kernel, rfl, by decide +kernel, by decide +kernel⟩
theorem isText_ok' {t : Str} (h : okCodes t.cps.toList) : isText t = decide ((t.length : Int) ≤ 1000) := by
  unfold isText
  rw [List.all_eq_true.mpr h, Bool.and_true]
theorem ok__law_value (T : Txt K mg A) : FnOk P w K mg base CX0 3 A.f_law_value A.d_law_value ["kind", "row"] (sp__law_value K) := by
  refine T.F_law_value.ok sc__law_value (fun vs H Q E h => ?_) (fun cdv Ar outer s H vs Q E hr h => ?_)
  · obtain ⟨k, r, U, rfl, _⟩ := h
    rfl
  · obtain ⟨kind, r, U, rfl, hk, sU, q⟩ := h
    refine ⟨_, (pss_cons (ps_set (i := 2) sc__law_value.nd rfl (Or.inl rfl) (pe_op op_mod (pe_callTy call_int1 (by rfl) T.int (by decide +kernel) (pa_cons (pe_op op_fdiv (pv 1) pe_int) pa_nil)) pe_int))
      (C8.pss_cut (ps_if (pt_cmpR op_eq (pe_op op_mod (pe_callTy call_int1 (by rfl) T.int (by decide +kernel) (pa_cons (pv 1) pa_nil)) pe_int) pe_int (nomark _))
      (pss_one (ps_set (i := 2) sc__law_value.nd rfl (Or.inl rfl) (pe_ix (r := rIxT K) ix_tup (pe_tup (pa_cons pe_int (pa_cons pe_int (pa_cons pe_int (pa_cons pe_int (pa_cons pe_int (pa_cons pe_int (pa_cons pe_int (pa_cons pe_int pa_nil))))))))) (pe_op op_mod (pe_callTy call_int1 (by rfl) T.int (by decide +kernel) (pa_cons (pe_op op_fdiv (pv 1) pe_int) pa_nil)) pe_int) (fun _ _ => rfl))))
      pss_nil)
      (pss_cons (ps_if (pt_cmpR op_eq (pv 0) pe_str (nomark _))
      (pss_one (ps_ret (pe_call (ok__law_text T) (hr.mono (by decide)) rfl T.g_law_text T.k_law_text T.b_law_text .nil pass0 (pa_cons (pe_op op_fdiv (pv 1) pe_int) (pa_cons (pe_op op_mod (pe_callTy call_int1 (by rfl) T.int (by decide +kernel) (pa_cons (pe_op op_fdiv (pv 1) pe_int) pa_nil)) pe_int) pa_nil)))))
      pss_nil)
      (pss_cons (ps_if (pt_cmpR op_eq (pv 0) pe_str (nomark _))
      (pss_one (ps_ret (pe_call (ok__law_octets T) (hr.mono (by decide)) rfl T.g_law_octets T.k_law_octets T.b_law_octets .nil pass0 (pa_cons (pe_op op_fdiv (pv 1) pe_int) (pa_cons (pe_op op_mod (pe_callTy call_int1 (by rfl) T.int (by decide +kernel) (pa_cons (pe_op op_fdiv (pv 1) pe_int) pa_nil)) pe_int) pa_nil)))))
      pss_nil)
      (pss_cons (ps_if (pt_cmpR op_eq (pv 0) pe_str (nomark _))
      (pss_one (ps_ret (pe_tup (pa_cons (pe_call (ok__law_text T) (hr.mono (by decide)) rfl T.g_law_text T.k_law_text T.b_law_text .nil pass0 (pa_cons (pe_op op_fdiv (pv 1) pe_int) (pa_cons (pe_op op_mod (pe_callTy call_int1 (by rfl) T.int (by decide +kernel) (pa_cons (pe_op op_fdiv (pv 1) pe_int) pa_nil)) pe_int) pa_nil))) (pa_cons (pe_callB (call_max2 rfl) (by rfl) T.max (by decide +kernel) (pa_cons pe_int (pa_cons (pv 2) pa_nil))) pa_nil)))))
      pss_nil)
      (pss_cons (ps_if (pt_cmpR op_eq (pv 0) pe_str (nomark _))
      (pss_one (ps_ret (pe_op op_sub (pv 2) pe_int)))
      pss_nil)
      (pss_cons (ps_if (PW.pt (pw_or (pt_cmpR op_eq (pv 0) pe_str (nomark _)) (pw_or1 (pt_cmpR op_eq (pv 0) pe_str (nomark _)))))
      (pss_one (ps_ret (pe_callB (call_max2 rfl) (by rfl) T.max (by decide +kernel) (pa_cons pe_int (pa_cons (pv 2) pa_nil)))))
      pss_nil)
      (pss_one (ps_ret (pv 2)))))))))), ?_⟩
    walk_at "rd"
    refine ⟨fun σ' H' => ∃ b : Int, 0 ≤ b ∧ b ≤ 4294967295 ∧ σ' = [some (.str kind), some (.int r), some (.int b)] ∧ Same H H', ?_, ?_⟩
    · walk_at "rd"
      refine iteEq (fun c => ?_) (fun c => ?_)
      · refine ⟨len_line (by show 8 ≤ 100000; decide), fun p hp => ?_⟩
        walk_at "rd"
        have hj : (r / 3 % 8).toNat < [(0 : Int), 1, 255, 65536, 2147483647, 2147483648, 4294967294, 4294967295].length := by show _ < 8; omega
        have hm := List.getElem_mem hj
        refine ⟨p, _, _, .int ([(0 : Int), 1, 255, 65536, 2147483647, 2147483648, 4294967294, 4294967295][(r / 3 % 8).toNat]), rfl, rfl, SqT.of upd_same, at_of (j := (r / 3 % 8).toNat) (by omega) ?_, _, ?_, ?_, rfl, same_upd hp⟩
        · show ([(0 : Int), 1, 255, 65536, 2147483647, 2147483648, 4294967294, 4294967295].map V.int)[(r / 3 % 8).toNat]? = _
          rw [List.getElem?_map, List.getElem?_eq_getElem hj]; rfl
        · generalize [(0 : Int), 1, 255, 65536, 2147483647, 2147483648, 4294967294, 4294967295][(r / 3 % 8).toNat] = z at hm
          simp only [List.mem_cons, List.not_mem_nil, or_false] at hm
          omega
        · generalize [(0 : Int), 1, 255, 65536, 2147483647, 2147483648, 4294967294, 4294967295][(r / 3 % 8).toNat] = z at hm
          simp only [List.mem_cons, List.not_mem_nil, or_false] at hm
          omega
      · exact ⟨_, by omega, by omega, rfl, Same.refl H⟩
    rintro σ' H1 ⟨b, hb0, hb1, rfl, s1⟩
    have num : ∀ {lo hi : Int} (i : Int), NumKind kind lo hi → lo ≤ i → i ≤ hi → Q (.int i) H1 := fun i hn h0 h1 =>
      q (.int i) (.num i) (octs (i % 4294967296) 4) U H1 ⟨Same.refl U, sU.trans s1, s1, fun _ h => Or.inl h⟩ (by have := ArgSpec.num (i := i) hn; rw [decide_eq_true ⟨h0, h1⟩] at this; exact this) rfl (by rw [octs_len]; decide)
    have neq : ∀ {A B : Prop} (x : Str), kind ≠ x → B → if decide (V.str kind = V.str x) = true then A else B := fun x h hB => if_f (decide_eq_false fun z => h (V.str.inj z)) hB
    have txt : ∀ (n : Nat), n < 23 → ∀ (r2 : Int), isText (lawTextS r2 n) = true ∧ (lawTextS r2 n).length < 80000 ∧ (textOcts (lawTextS r2 n)).length ≤ 40 := fun n hn r2 => by
      have l := lawTextS_len r2 n
      refine ⟨?_, by omega, ?_⟩
      · rw [isText_ok' (lawTextS_ok r2 n), l]; exact decide_eq_true (by omega)
      · have := textOcts_len (lawTextS r2 n); omega
    have hn23 : (r / 7 % 23).toNat < 23 ∧ (((r / 7 % 23).toNat : Nat) : Int) = r / 7 % 23 := by omega
    -- kind == 'text'
    refine ⟨_, rfl, rfl, _, rfl, if_b (fun c => ?_) (fun c => ?_)⟩
    · have e : kind = "text" := V.str.inj (of_decide_eq_true c)
      subst e
      refine ⟨_, rfl, _, _, rfl, rfl, ⟨by decide, by decide⟩, _, rfl, _, _, rfl, rfl, ⟨by decide, by decide⟩, Or.inl ⟨_, rfl, ?_⟩⟩
      refine ⟨_, _, rfl, rfl, by show (0 : Int) < 23; decide, r / 5, (r / 7 % 23).toNat, ?_, by omega, fun H2 s2 => ?_⟩
      · rw [hn23.2]; rfl
      obtain ⟨t1, t2, t3⟩ := txt (r / 7 % 23).toNat hn23.1 (r / 5)
      refine q _ (.txt (lawTextS (r / 5) (r / 7 % 23).toNat)) _ U H2 ⟨Same.refl U, sU.trans (s1.trans s2), s1.trans s2, fun _ h => Or.inl h⟩ (by have := ArgSpec.txt (s := lawTextS (r / 5) (r / 7 % 23).toNat); rw [t1] at this; exact this) ⟨rfl, t2⟩ (by omega)
    have n1 : kind ≠ "text" := fun z => by rw [z, decide_eq_true rfl] at c; cases c
    refine ⟨_, rfl, rfl, _, rfl, if_b (fun c => ?_) (fun c => ?_)⟩
    · have e : kind = "octets" := V.str.inj (of_decide_eq_true c)
      subst e
      refine ⟨_, rfl, _, _, rfl, rfl, ⟨by decide, by decide⟩, _, rfl, _, _, rfl, rfl, ⟨by decide, by decide⟩, Or.inl ⟨_, rfl, ?_⟩⟩
      refine ⟨_, _, rfl, rfl, by show (0 : Int) < 23; decide, r / 5, (r / 7 % 23).toNat, ?_, by omega, fun p H2 n2 => ?_⟩
      · rw [hn23.2]; rfl
      have hl := lawOcts_len (r / 5) (r / 7 % 23).toNat
      have hok : octsOk (lawOcts (r / 5) (r / 7 % 23).toNat) = true := by
        unfold octsOk; rw [lawOcts_ok, hl, Bool.and_true]; exact decide_eq_true (by omega)
      have n2' : NewL H H2 p ((lawOcts (r / 5) (r / 7 % 23).toNat).map V.int) := ⟨s1.free n2.new, s1.trans n2.same, n2.at_⟩
      refine q _ (.oct (lawOcts (r / 5) (r / 7 % 23).toNat)) _ _ H2 (n2'.ext sU) (by have := ArgSpec.oct (xs := lawOcts (r / 5) (r / 7 % 23).toNat); rw [hok] at this; exact this) ⟨p, rfl, upd_same, by omega⟩ ?_
      rw [pad_len, List.length_append, octs_len, hl]
      have := padN_lt (4 + (r / 7 % 23).toNat)
      omega
    have n2 : kind ≠ "octets" := fun z => by rw [z, decide_eq_true rfl] at c; cases c
    have mx : ∀ (m : Int), m = (if b > 1 then b else 1) → 1 ≤ m ∧ m ≤ 4294967295 := fun m e => by rw [e]; split <;> omega
    refine ⟨_, rfl, rfl, _, rfl, if_b (fun c => ?_) (fun c => ?_)⟩
    · have e : kind = "bound" := V.str.inj (of_decide_eq_true c)
      subst e
      refine ⟨_, rfl, _, _, rfl, rfl, ⟨by decide, by decide⟩, _, rfl, _, _, rfl, rfl, ⟨by decide, by decide⟩, Or.inl ⟨_, rfl, ?_⟩⟩
      refine ⟨_, _, rfl, rfl, by show (0 : Int) < 23; decide, r / 5, (r / 7 % 23).toNat, ?_, by omega, fun H2 s2 => ?_⟩
      · rw [hn23.2]; rfl
      obtain ⟨t1, t2, t3⟩ := txt (r / 7 % 23).toNat hn23.1 (r / 5)
      generalize lawTextS (r / 5) (r / 7 % 23).toNat = t at t1 t2 t3 ⊢
      refine ⟨_, rfl, _, _, rfl, len_line (by show 2 ≤ 100000; decide), fun p hp => ?_⟩
      obtain ⟨m0, m1⟩ := mx _ rfl
      generalize (if b > 1 then b else 1) = m at m0 m1 hp ⊢
      have hpH : H p = none := (s1.trans s2).free hp
      refine q (.ref p) (.bnd t m) _ _ _ ((Ext.new (o := .tup [.str t, .int m]) sU hpH).trans ⟨Same.refl _, ?_, ?_, fun _ h => Or.inl h⟩) (by have := ArgSpec.bnd (s := t) (n := m); rw [t1, decide_eq_true ⟨m0, m1⟩] at this; exact this) ⟨p, rfl, SqT.of upd_same, t2⟩ ?_
      · intro c u e
        by_cases hc : c = p
        · subst hc; rw [upd_same] at e ⊢; exact e
        · rw [upd_ne hc] at e ⊢; exact (sU.trans (s1.trans s2)) c u e
      · intro c u e
        by_cases hc : c = p
        · subst hc; rw [upd_same] at e ⊢; exact e
        · rw [upd_ne hc] at e ⊢; exact (s1.trans s2) c u e
      · rw [List.length_append, octs_len]; omega
    have n3 : kind ≠ "bound" := fun z => by rw [z, decide_eq_true rfl] at c; cases c
    refine ⟨_, rfl, rfl, _, rfl, if_b (fun c => ?_) (fun c => ?_)⟩
    · have e : kind = "int" := V.str.inj (of_decide_eq_true c)
      subst e
      exact ⟨_, rfl, _, _, rfl, rfl, num _ .int (by omega) (by omega)⟩
    have n4 : kind ≠ "int" := fun z => by rw [z, decide_eq_true rfl] at c; cases c
    obtain ⟨m0, m1⟩ := mx _ rfl
    refine ⟨_, rfl, rfl, _, rfl, if_b (fun c => ?_) (fun c => ?_)⟩
    · have e : kind = "object" := V.str.inj (of_decide_eq_true c)
      subst e
      exact if_t rfl ⟨_, rfl, _, _, rfl, num _ .object m0 m1⟩
    have n5 : kind ≠ "object" := fun z => by rw [z, decide_eq_true rfl] at c; cases c
    refine ⟨_, rfl, rfl, _, rfl, if_b (fun c => ?_) (fun c => ?_)⟩
    · have e : kind = "new" := V.str.inj (of_decide_eq_true c)
      subst e
      exact ⟨_, rfl, _, _, rfl, num _ .new m0 m1⟩
    have n6 : kind ≠ "new" := fun z => by rw [z, decide_eq_true rfl] at c; cases c
    have hk2 : kind = "uint" ∨ kind = "maybe" := by
      unfold kindsL at hk
      simp only [List.mem_cons, List.not_mem_nil, or_false] at hk
      rcases hk with h | h | h | h | h | h | h | h
      · exact Or.inl h
      · exact absurd h n4
      · exact absurd h n1
      · exact absurd h n2
      · exact absurd h n5
      · exact Or.inr h
      · exact absurd h n6
      · exact absurd h n3
    rcases hk2 with rfl | rfl
    · exact ⟨_, rfl, num _ .uint hb0 hb1⟩
    · exact ⟨_, rfl, num _ .maybe hb0 hb1⟩
/-! ### number_at, _cut, cut_messages -/
def numAt (xs : List Int) (at_ c : Nat) : Int := ((List.range c).map fun k => xs.getD (at_ + k) 0 * 2 ^ (8 * k)).sum
theorem numAt2 (xs : List Int) (p : Nat) : numAt xs p 2 = xs.getD p 0 + 256 * xs.getD (p + 1) 0 := by
  show xs.getD (p + 0) 0 * 2 ^ 0 + (xs.getD (p + 1) 0 * 2 ^ 8 + 0) = _
  rw [Nat.add_zero]; omega
theorem numAt4 (xs : List Int) (p : Nat) : numAt xs p 4 = xs.getD p 0 + 256 * xs.getD (p + 1) 0 + 65536 * xs.getD (p + 2) 0 + 16777216 * xs.getD (p + 3) 0 := by
  show xs.getD (p + 0) 0 * 2 ^ 0 + (xs.getD (p + 1) 0 * 2 ^ 8 + (xs.getD (p + 2) 0 * 2 ^ 16 + (xs.getD (p + 3) 0 * 2 ^ 24 + 0))) = _
  rw [Nat.add_zero]; omega
def okOcts (xs : List Int) : Prop := ∀ x ∈ xs, 0 ≤ x ∧ x ≤ 255
theorem getD_at {xs : List Int} {i : Nat} (h : i < xs.length) : (xs.map V.int)[i]? = some (.int (xs.getD i 0)) := by
  rw [List.getElem?_map, List.getElem?_eq_getElem h, List.getD_eq_getElem?_getD, List.getElem?_eq_getElem h]; rfl
theorem okOcts.get {xs : List Int} (h : okOcts xs) (i : Nat) : 0 ≤ xs.getD i 0 ∧ xs.getD i 0 ≤ 255 := by
  rw [List.getD_eq_getElem?_getD]
  cases e : xs[i]? with
  | none => decide
  | some x => exact h x (List.mem_of_getElem? e)
def sp_number_at (K : PySem.W.Frag) : Sp := fun vs H Q _ => ∃ (a : Addr) (xs : List Int) (p c : Nat), vs = [.ref a, .int (p : Int), .int (c : Int)] ∧ SqL K H a (xs.map V.int) ∧ okOcts xs ∧ p + c ≤ xs.length ∧ c ≤ 1000 ∧ ∀ H', Same H H' → Q (.int (numAt xs p c)) H'
theorem sc_number_at : FnScope ["octets", "at", "count", "place"] ["octets", "at", "count"] (defScope s_number_at) := ⟨rfl, rfl, rfl, by decide +kernel, rfl, by decide +kernel, by decide +kernel⟩
theorem ok_number_at (T : Txt K mg A) : FnOk P w K mg base CX0 1 A.fnumber_at A.dnumber_at ["octets", "at", "count"] (sp_number_at K) := by
  refine T.Fnumber_at.ok sc_number_at (fun vs H Q E h => ?_) (fun cdv Ar outer s H vs Q E hr h => ?_)
  · obtain ⟨a, xs, p, c, rfl, _⟩ := h
    rfl
  · obtain ⟨a, xs, p, c, rfl, hS, ho, hl, hc, q⟩ := h
    refine ⟨_, (pss_one (ps_ret (pe_callB (cr_sum rfl) (by rfl) T.sum (by decide +kernel) (pa_cons (pe_lc (own := [("place", 3)]) (g := (gName 3)) (tt := tYes) rfl sc_number_at.nd (pi_range1 (by rfl) T.range (pa_cons (pv 2) pa_nil)) (blkOk_by (own := [("place", 3)]) (N := ["octets", "at", "count", "place"]) (sc := defScope s_number_at) (by decide +kernel)) (fun _ _ _ _ _ => (pg_name (i := 3) sc_number_at.nd rfl (Or.inl rfl))) (fun _ _ _ _ _ => pts_nil) (fun _ _ _ _ _ => by exact (pe_op op_shl (pe_ix (r := rIxL K) ix_list (pv 0) (pe_op op_add (pv 1) (pv 3)) (fun _ _ => rfl)) (pe_op op_mul pe_int (pv 3))))) pa_nil)))), ?_⟩
    refine ⟨_, rfl, (c : Int), rfl, by omega, by omega, fun D hD => ?_⟩
    refine lc_dp (walk_range (lo := 0) (n := (c : Int).toNat)) (K := K) (V0 := H) (H0 := H) (fun k => some (PyData.int (xs.getD (p + k) 0 * 2 ^ (8 * k)))) [some (.ref a), some (.int (p : Int)), some (.int (c : Int)), none] rfl (Same.refl _) hD (by omega) (fun _ _ => trivial) (fun i x H H' y => y.1) ?_ ?_
    · rintro i x U H1 hi xx ⟨_, rfl⟩ Qy Qn hy _
      have hb := ho.get (p + i)
      have e1 : (8 * (0 + (i : Int))).toNat = 8 * i := by omega
      refine ⟨rfl, _, rfl, _, rfl, _, rfl, _, _, rfl, rfl, a, _, _, .int (xs.getD (p + i) 0), rfl, rfl, xx.hh.seq hS, at_of (j := p + i) (by omega) (getD_at (by omega)), ?_⟩
      refine ⟨_, rfl, _, _, rfl, rfl, Or.inl ⟨by decide, by decide⟩, _, _, rfl, rfl, ⟨?_, ?_, ?_⟩, ?_⟩
      · show (0 : Int) ≤ 8 * (0 + (i : Int)); omega
      · show 8 * (0 + (i : Int)) ≤ 1000000; omega
      · have : (xs.getD (p + i) 0).natAbs ≤ 255 := by omega
        exact Nat.lt_of_le_of_lt this (by decide)
      · dsimp only
        rw [e1]
        exact hy _ _ _ _ rfl (Ext.refl xx.vh) (.int _)
    · rintro U H1 ys xx hDU dl _
      rw [show (c : Int).toNat = c by omega, fm_some, show ((List.range c).map fun k => PyData.int (xs.getD (p + k) 0 * 2 ^ (8 * k))) = ((List.range c).map fun k => xs.getD (p + k) 0 * 2 ^ (8 * k)).map PyData.int from by rw [List.map_map]; rfl] at dl
      have e := dp_intsV dl
      subst e
      exact ⟨D, _, rfl, SqL.of (xx.vh _ _ hDU), q _ xx.hh⟩
theorem cutV_nat {xs : List V} {i j : Nat} (h : i ≤ j) (hj : j ≤ xs.length) : cutV xs (some (i : Int)) (some (j : Int)) = (xs.drop i).take (j - i) := by
  unfold cutV
  rw [HT.sIx_nat, HT.sIx_nat, Nat.min_eq_left (show i ≤ xs.length by omega), Nat.min_eq_left hj]
/-! ### a rule: any(xs) of a list of ints -/
section
open PySem.Spec PyProof.Rows
theorem truth_ints {prog : Program} {w : World} {A : Around} {is : List Int} {its : List Value} (e : Vals (is.map V.int) its) :
    TruthOf prog w A (fun i v => its.toArray[i]? = some v) (fun i => (is.map fun x => (x != 0)).getD i false) := fun i v s Q E hv hq => by
  have hv' : its[i]? = some v := by simpa using hv
  have hlen : is.length = its.length := by rw [← e.length, List.length_map]
  have hi : i < is.length := by rw [hlen]; exact (List.getElem?_eq_some_iff.mp hv').1
  obtain ⟨u, hu, r⟩ := e.get (i := i) (x := .int is[i]) (by rw [List.getElem?_map, List.getElem?_eq_getElem hi]; rfl)
  rw [hv'] at hu
  obtain rfl := Option.some.inj hu
  obtain ⟨t, rfl⟩ := r
  have hg : (is.map fun x => (x != 0)).getD i false = (is[i] != 0) := by rw [List.getD_eq_getElem?_getD, List.getElem?_map, List.getElem?_eq_getElem hi]; rfl
  have hq' : Q ((is.map fun x => (x != 0)).getD i false) s := hq
  rw [hg] at hq'
  exact truthy_int hq'
def rAnyI (K : PySem.W.Frag) : List V → Hp → VK → Prop := fun vs H Q => ∃ (a : Addr) (is : List Int), vs = [V.ref a] ∧ SqL K H a (is.map V.int) ∧ Q (.bl (is.any fun x => (x != 0))) H
theorem cr_anyI {X : Cx} (hc : X.calm = true) : CallR X (.builtin "any") (rAnyI X.K) := by
  intro pins s σ H vs us Q I r h
  obtain ⟨a, is, rfl, hs, q⟩ := h
  obtain ⟨its, rv, hl, _⟩ := I.list hs
  rw [Vals.ref1 r]
  have hlen : is.length = its.length := by rw [← rv.length, List.length_map]
  refine call_any_walk (iter_any hl.isList fun s₂ e2 st hne => ?_)
  subst e2
  refine ⟨_, _, _, _, _, _, _, rfl, Walks.list (A := X.A.in1) (I.ok.hd hc) _ a hne its.toArray, st, truth_ints rv, fun h' tk hk => ?_⟩
  refine ⟨.bl _, H, I.kept fun b o eo => hk b o (fun hmem => ?_) (Heap.get?_push_of_some _ eo), ?_, q⟩
  · rcases List.mem_cons.mp hmem with e1 | hmem
    · exact absurd (e1 ▸ Heap.lt_size eo) (Nat.lt_irrefl _)
    · cases hmem
  · show Value.bool _ = Value.bool _
    have := any_range (is.map fun x => (x != 0))
    rw [List.length_map, hlen] at this
    rw [List.size_toArray, this, List.any_map]; rfl
end
/-! ### the reader: a model -/
inductive RErr
  | len | text | pad | miss
def rdNum (xs : List Int) (a : Nat) : Except RErr (Int × Nat) := if xs.length < a + 4 then .error .len else .ok (numAt xs a 4, a + 4)
def rdNamed (xs : List Int) (a : Nat) : Except RErr (Int × Nat) := match rdNum xs a with
  | .error e => .error e
  | .ok (n, b) => if n = 0 then .error .miss else .ok (n, b)
def rdPad (xs : List Int) (e : Nat) : Except RErr Nat :=
  if xs.length < e + padN e then .error .len else if ((xs.drop e).take (padN e)).any (fun x => (x != 0)) = true then .error .pad else .ok (e + padN e)
def codesS (cs : List Int) : Str := ⟨(cs.map Int.toNat).toArray⟩
def rdText (xs : List Int) (a : Nat) : Except RErr (Str × Nat) := match rdNum xs a with
  | .error e => .error e
  | .ok (l, b) => if ¬ (1 ≤ l ∧ l ≤ 1001) then .error .len else if xs.length < b + l.toNat then .error .len else
    if xs.getD (b + l.toNat - 1) 0 ≠ 0 ∨ ((xs.drop b).take (l.toNat - 1)).all codeOk = false then .error .text else
    match rdPad xs (b + l.toNat) with
    | .error e => .error e
    | .ok c => .ok (codesS ((xs.drop b).take (l.toNat - 1)), c)
def rdOcts (xs : List Int) (a : Nat) : Except RErr (List Int × Nat) := match rdNum xs a with
  | .error e => .error e
  | .ok (l, b) => if 16384 < l then .error .len else
    match rdPad xs (b + l.toNat) with
    | .error e => .error e
    | .ok c => .ok ((xs.drop b).take l.toNat, c)
def rdBound (xs : List Int) (a : Nat) : Except RErr (AV × Nat) := match rdText xs a with
  | .error e => .error e
  | .ok (s, b) => match rdNamed xs b with
    | .error e => .error e
    | .ok (n, c) => .ok (.bnd s n, c)
def rdKind (k : Str) (xs : List Int) (a : Nat) : Except RErr (AV × Nat) :=
  if k = "text" then (match rdText xs a with | .error e => .error e | .ok (s, b) => .ok (.txt s, b))
  else if k = "octets" then (match rdOcts xs a with | .error e => .error e | .ok (s, b) => .ok (.oct s, b))
  else if k = "bound" then rdBound xs a
  else if k = "object" ∨ k = "new" then (match rdNamed xs a with | .error e => .error e | .ok (s, b) => .ok (.num s, b))
  else match rdNum xs a with
    | .error e => .error e
    | .ok (n, b) => .ok (.num (if k = "int" ∧ 2147483647 < n then n - 4294967296 else n), b)
/-- what a reader of the octets xs from p promises: err: what each of its errors gives -/
structure Src (K : PySem.W.Frag) (H : Hp) (a : Addr) (xs : List Int) : Prop where
  at_ : SqL K H a (xs.map V.int)
  ok : okOcts xs
  len : xs.length < 100000
theorem Src.to {K : PySem.W.Frag} {H H' : Hp} {a : Addr} {xs : List Int} (h : Src K H a xs) (s : Same H H') : Src K H' a xs := ⟨s.seq h.at_, h.ok, h.len⟩
theorem cut_ints {xs : List Int} {i j : Nat} (h : i ≤ j) (hj : j ≤ xs.length) : cutV (xs.map V.int) (some (i : Int)) (some (j : Int)) = ((xs.drop i).take (j - i)).map V.int := by
  have := cutV_nat (xs := xs.map V.int) (i := i) (j := j) h (by rw [List.length_map]; exact hj)
  rw [List.map_take, List.map_drop]
  exact this
def sp__demand (K : PySem.W.Frag) (c : RErr → Addr) : Sp := fun vs H Q E => ∃ (a : Addr) (xs : List Int) (e : Nat), vs = [.ref a, .int (e : Int)] ∧ SqL K H a (xs.map V.int) ∧ (xs.length < e → E (.ref (c .len)) none H) ∧ (¬ xs.length < e → Q .non H)
def errOf (A : Adr) : RErr → Addr
  | .len => A.CBadLength
  | .text => A.CBadText
  | .pad => A.CBadPadding
  | .miss => A.CObjectMissing
theorem sc__demand : FnScope ["octets", "end"] ["octets", "end"] (defScope s__demand) := ⟨rfl, rfl, rfl, by decide +kernel, rfl, by decide +kernel, by decide +kernel⟩
theorem ok__demand (T : Txt K mg A) : FnOk P w K mg base (L2.CX P w) 1 A.f_demand A.d_demand ["octets", "end"] (sp__demand K (errOf A)) := by
  refine T.F_demand.okX sc__demand (fun vs H Q E h => ?_) (fun cdv Ar outer s H vs Q E hr h => ?_)
  · obtain ⟨a, xs, e, rfl, _⟩ := h
    rfl
  · obtain ⟨a, xs, e, rfl, hS, qe, q⟩ := h
    refine ⟨_, (pss_one (ps_if (pt_cmpR op_lt (pe_callB call_len_seq (by rfl) T.len PySem.boot_len (pa_cons (pv 0) pa_nil)) (pv 1) (nomark _))
      (pss_one (ps_raise rfl (takes_of rfl rfl rfl rfl) (pmk_own PySem.F.excBase_ValueError T.xBadLength T.gBadLength T.kBadLength (raises_own T.bxBadLength T.txBadLength) rfl)))
      pss_nil)), ?_⟩
    refine ⟨_, rfl, a, _, rfl, .inl hS, _, rfl, _, _, rfl, rfl, _, rfl, ?_⟩
    rw [List.length_map]
    exact iteP (fun c => qe (by omega)) (fun c => q (by omega))
def sp__read_number (K : PySem.W.Frag) (c : RErr → Addr) : Sp := fun vs H Q E => ∃ (a : Addr) (xs : List Int) (p : Nat), vs = [.ref a, .int (p : Int)] ∧ Src K H a xs ∧
  (∀ e, rdNum xs p = .error e → E (.ref (c e)) none H) ∧ (∀ n b t H', rdNum xs p = .ok (n, b) → Same H H' → SqT K H' t [.int n, .int (b : Int)] → Q (.ref t) H')
theorem sc__read_number : FnScope ["octets", "at"] ["octets", "at"] (defScope s__read_number) := ⟨rfl, rfl, rfl, by decide +kernel, rfl, by decide +kernel, by decide +kernel⟩
theorem ok__read_number (T : Txt K mg A) : FnOk P w K mg base (L2.CX P w) 2 A.f_read_number A.d_read_number ["octets", "at"] (sp__read_number K (errOf A)) := by
  refine T.F_read_number.okX sc__read_number (fun vs H Q E h => ?_) (fun cdv Ar outer s H vs Q E hr h => ?_)
  · obtain ⟨a, xs, p, rfl, _⟩ := h
    rfl
  · obtain ⟨a, xs, p, rfl, hS, qe, q⟩ := h
    refine ⟨_, (pss_cons (ps_expr (pe_call (ok__demand T) (hr.mono (by decide)) rfl T.g_demand T.k_demand T.b_demand .nil (passes_call (takes_of rfl rfl rfl rfl) (fun _ _ _ _ h => h)) (pa_cons (pv 0) (pa_cons (pe_op op_add (pv 1) pe_int) pa_nil))))
      (pss_one (ps_ret (pe_tup (pa_cons (pe_call (ok_number_at T) (hr.mono (by decide)) rfl T.gnumber_at T.knumber_at T.bnumber_at .nil pass0 (pa_cons (pv 0) (pa_cons (pv 1) (pa_cons pe_int pa_nil)))) (pa_cons (pe_op op_add (pv 1) pe_int) pa_nil)))))), ?_⟩
    unfold rdNum at qe q
    refine ⟨_, rfl, _, rfl, _, _, rfl, rfl, a, xs, p + 4, rfl, hS.at_, fun c => qe .len (by rw [if_pos c]), fun c => ?_⟩
    rw [if_neg c] at q
    refine ⟨_, rfl, _, rfl, a, xs, p, 4, rfl, hS.at_, hS.ok, by omega, by decide, fun H1 s1 => ?_⟩
    exact ⟨_, rfl, _, _, rfl, rfl, len_line (by show 2 ≤ 100000; decide), fun t ht => q _ _ t _ rfl (s1.trans (same_upd ht)) (SqT.of upd_same)⟩
def sp__read_named (K : PySem.W.Frag) (c : RErr → Addr) : Sp := fun vs H Q E => ∃ (a : Addr) (xs : List Int) (p : Nat), vs = [.ref a, .int (p : Int)] ∧ Src K H a xs ∧
  (∀ e H', rdNamed xs p = .error e → Same H H' → E (.ref (c e)) none H') ∧ (∀ n b t H', rdNamed xs p = .ok (n, b) → Same H H' → SqT K H' t [.int n, .int (b : Int)] → Q (.ref t) H')
theorem sc__read_named : FnScope ["octets", "at", "number", "behind"] ["octets", "at"] (defScope s__read_named) := ⟨rfl, rfl, rfl, by decide +kernel, rfl, by decide +kernel, by decide +kernel⟩
theorem ok__read_named (T : Txt K mg A) : FnOk P w K mg base (L2.CX P w) 3 A.f_read_named A.d_read_named ["octets", "at"] (sp__read_named K (errOf A)) := by
  refine T.F_read_named.okX sc__read_named (fun vs H Q E h => ?_) (fun cdv Ar outer s H vs Q E hr h => ?_)
  · obtain ⟨a, xs, p, rfl, _⟩ := h
    rfl
  · obtain ⟨a, xs, p, rfl, hS, qe, q⟩ := h
    refine ⟨_, (pss_cons (ps_asg (pe_call (ok__read_number T) (hr.mono (by decide)) rfl T.g_read_number T.k_read_number T.b_read_number .nil (passes_call (takes_of rfl rfl rfl rfl) (fun _ _ _ _ h => h)) (pa_cons (pv 0) (pa_cons (pv 1) pa_nil))) (pg_tup rfl (pgs_cons (pg_name (i := 2) sc__read_named.nd rfl (Or.inl rfl)) (pgs_cons (pg_name (i := 3) sc__read_named.nd rfl (Or.inl rfl)) pgs_nil))))
      (pss_cons (ps_if (pt_cmpR op_eq (pv 2) pe_int (nomark _))
      (pss_one (ps_raise rfl (takes_of rfl rfl rfl rfl) (pmk_own PySem.F.excBase_ValueError T.xObjectMissing T.gObjectMissing T.kObjectMissing (raises_own T.bxObjectMissing T.txObjectMissing) rfl)))
      pss_nil)
      (pss_one (ps_ret (pe_tup (pa_cons (pv 2) (pa_cons (pv 3) pa_nil))))))), ?_⟩
    unfold rdNamed at qe q
    refine ⟨_, rfl, _, rfl, a, xs, p, rfl, hS, fun e he => qe e H (by rw [he]) (Same.refl H), fun n b t H1 he s1 ht => ?_⟩
    rw [he] at qe q
    refine ⟨t, _, rfl, ht, rfl, _, _, rfl, _, _, rfl, rfl, ?_⟩
    refine ⟨_, rfl, rfl, _, rfl, iteEq (fun c => ?_) (fun c => ?_)⟩
    · exact qe .miss H1 (if_pos c) s1
    · exact ⟨_, rfl, _, rfl, len_line (by show 2 ≤ 100000; decide), fun t ht => q _ _ t _ (if_neg c) (s1.trans (same_upd ht)) (SqT.of upd_same)⟩
def sp__behind_padding (K : PySem.W.Frag) (c : RErr → Addr) : Sp := fun vs H Q E => ∃ (a : Addr) (xs : List Int) (p : Nat), vs = [.ref a, .int (p : Int)] ∧ Src K H a xs ∧
  (∀ e H', rdPad xs p = .error e → Same H H' → E (.ref (c e)) none H') ∧ (∀ b H', rdPad xs p = .ok b → Same H H' → Q (.int (b : Int)) H')
theorem sc__behind_padding : FnScope ["octets", "end", "behind"] ["octets", "end"] (defScope s__behind_padding) := ⟨rfl, rfl, rfl, by decide +kernel, rfl, by decide +kernel, by decide +kernel⟩
theorem ok__behind_padding (T : Txt K mg A) : FnOk P w K mg base (L2.CX P w) 2 A.f_behind_padding A.d_behind_padding ["octets", "end"] (sp__behind_padding K (errOf A)) := by
  refine T.F_behind_padding.okX sc__behind_padding (fun vs H Q E h => ?_) (fun cdv Ar outer s H vs Q E hr h => ?_)
  · obtain ⟨a, xs, p, rfl, _⟩ := h
    rfl
  · obtain ⟨a, xs, p, rfl, hS, qe, q⟩ := h
    refine ⟨_, (pss_cons (ps_set (i := 2) sc__behind_padding.nd rfl (Or.inl rfl) (pe_op op_add (pv 1) (pe_op op_mod (pe_un un_neg (pv 1)) pe_int)))
      (pss_cons (ps_expr (pe_call (ok__demand T) (hr.mono (by decide)) rfl T.g_demand T.k_demand T.b_demand .nil (passes_call (takes_of rfl rfl rfl rfl) (fun _ _ _ _ h => h)) (pa_cons (pv 0) (pa_cons (pv 2) pa_nil))))
      (pss_cons (ps_if (pt_val (pe_callB (cr_anyI rfl) (by rfl) T.any (by decide +kernel) (pa_cons (pe_slice (r := rSlL K) sl_list (pv 0) (po_some (pv 1)) (po_some (pv 2))) pa_nil)))
      (pss_one (ps_raise rfl (takes_of rfl rfl rfl rfl) (pmk_own PySem.F.excBase_ValueError T.xBadPadding T.gBadPadding T.kBadPadding (raises_own T.bxBadPadding T.txBadPadding) rfl)))
      pss_nil)
      (pss_one (ps_ret (pv 2)))))), ?_⟩
    unfold rdPad at qe q
    refine ⟨_, rfl, _, rfl, _, rfl, _, _, rfl, rfl, by show (0 : Int) < 4; decide, _, _, rfl, rfl, ?_⟩
    have ep : (p : Int) + -(p : Int) % 4 = ((p + padN p : Nat) : Int) := by unfold padN; omega
    dsimp only
    rw [ep]
    refine ⟨_, rfl, _, rfl, a, xs, p + padN p, rfl, hS.at_, fun c => qe .len H (by rw [if_pos c]) (Same.refl H), fun c => ?_⟩
    rw [if_neg c] at qe q
    refine ⟨_, rfl, _, rfl, _, rfl, _, rfl, _, rfl, a, _, rfl, hS.at_, fun b hb => ?_⟩
    rw [cut_ints (by omega) (by omega), show p + padN p - p = padN p by omega]
    have sb := same_upd (o := .lst (((xs.drop p).take (padN p)).map V.int)) hb
    refine ⟨b, _, rfl, SqL.of upd_same, _, rfl, if_b (fun c2 => qe .pad _ (if_pos c2) sb) (fun c2 => ⟨_, rfl, q _ _ (if_neg (by rw [c2]; decide)) sb⟩)⟩
theorem chars_at {c : Int} (h : codeOk c = true) : 0 ≤ c - 32 ∧ (" !\"#$ &'()*+,-./0123456789:;<=>?@ABCDEFGHIJKLMNOPQRSTUVWXYZ[\\]^_`abcdefghijklmnopqrstuvwxyz{|}~" : Str).cps.toList[(c - 32).toNat]? = some c.toNat := by
  have hc := of_decide_eq_true h
  refine ⟨by omega, ?_⟩
  have : ∀ k : Fin 95, k.val ≠ 5 → (" !\"#$ &'()*+,-./0123456789:;<=>?@ABCDEFGHIJKLMNOPQRSTUVWXYZ[\\]^_`abcdefghijklmnopqrstuvwxyz{|}~" : Str).cps.toList[k.val]? = some (k.val + 32) := by decide +kernel
  have := this ⟨(c - 32).toNat, by omega⟩ (by show (c - 32).toNat ≠ 5; omega)
  rw [show c.toNat = (c - 32).toNat + 32 by omega]
  exact this
def sp__read_octets (K : PySem.W.Frag) (c : RErr → Addr) : Sp := fun vs H Q E => ∃ (a : Addr) (xs : List Int) (p : Nat) (U : Hp), vs = [.ref a, .int (p : Int)] ∧ Src K H a xs ∧ Same U H ∧
  (∀ e H', rdOcts xs p = .error e → Same H H' → E (.ref (c e)) none H') ∧
  (∀ ys b v t U' H', rdOcts xs p = .ok (ys, b) → Ext U H U' H' → U' v = some (.lst (ys.map V.int)) → SqT K H' t [.ref v, .int (b : Int)] → Q (.ref t) H')
theorem sc__read_octets : FnScope ["octets", "at", "length", "begin", "end", "behind"] ["octets", "at"] (defScope s__read_octets) := ⟨rfl, rfl, rfl, by decide +kernel, rfl, by decide +kernel, by decide +kernel⟩
theorem ok__read_octets (T : Txt K mg A) : FnOk P w K mg base (L2.CX P w) 3 A.f_read_octets A.d_read_octets ["octets", "at"] (sp__read_octets K (errOf A)) := by
  refine T.F_read_octets.okX sc__read_octets (fun vs H Q E h => ?_) (fun cdv Ar outer s H vs Q E hr h => ?_)
  · obtain ⟨a, xs, p, U, rfl, _⟩ := h
    rfl
  · obtain ⟨a, xs, p, U, rfl, hS, sU, qe, q⟩ := h
    refine ⟨_, (pss_cons (ps_asg (pe_call (ok__read_number T) (hr.mono (by decide)) rfl T.g_read_number T.k_read_number T.b_read_number .nil (passes_call (takes_of rfl rfl rfl rfl) (fun _ _ _ _ h => h)) (pa_cons (pv 0) (pa_cons (pv 1) pa_nil))) (pg_tup rfl (pgs_cons (pg_name (i := 2) sc__read_octets.nd rfl (Or.inl rfl)) (pgs_cons (pg_name (i := 3) sc__read_octets.nd rfl (Or.inl rfl)) pgs_nil))))
      (pss_cons (ps_if (pt_cmpR op_gt (pv 2) (pe_glob (v := .int (16384)) rfl T.gMOST_OCTETS ⟨_, rfl⟩) (nomark _))
      (pss_one (ps_raise rfl (takes_of rfl rfl rfl rfl) (pmk_own PySem.F.excBase_ValueError T.xBadLength T.gBadLength T.kBadLength (raises_own T.bxBadLength T.txBadLength) rfl)))
      pss_nil)
      (pss_cons (ps_set (i := 4) sc__read_octets.nd rfl (Or.inl rfl) (pe_op op_add (pv 3) (pv 2)))
      (pss_cons (ps_set (i := 5) sc__read_octets.nd rfl (Or.inl rfl) (pe_call (ok__behind_padding T) (hr.mono (by decide)) rfl T.g_behind_padding T.k_behind_padding T.b_behind_padding .nil (passes_call (takes_of rfl rfl rfl rfl) (fun _ _ _ _ h => h)) (pa_cons (pv 0) (pa_cons (pv 4) pa_nil))))
      (pss_one (ps_ret (pe_tup (pa_cons (pe_slice (r := rSlL K) sl_list (pv 0) (po_some (pv 3)) (po_some (pv 4))) (pa_cons (pv 5) pa_nil))))))))), ?_⟩
    unfold rdOcts at qe q
    refine ⟨_, rfl, _, rfl, a, xs, p, rfl, hS, fun e he => qe e H (by rw [he]) (Same.refl H), fun n b t H1 he s1 ht => ?_⟩
    rw [he] at qe q
    dsimp only at qe q
    have hn0 : 0 ≤ n := by
      unfold rdNum at he
      split at he
      · cases he
      · cases he
        rw [numAt4]
        have := hS.ok.get p; have := hS.ok.get (p + 1); have := hS.ok.get (p + 2); have := hS.ok.get (p + 3)
        omega
    refine ⟨t, _, rfl, ht, rfl, _, _, rfl, _, _, rfl, rfl, ?_⟩
    refine ⟨_, rfl, _, _, rfl, rfl, _, rfl, iteP (fun c => qe .len H1 (if_pos c) s1) (fun c => ?_)⟩
    have c' : ¬ 16384 < n := c
    rw [if_neg c'] at qe q
    refine ⟨_, rfl, _, rfl, _, _, rfl, rfl, ?_⟩
    have eb : (b : Int) + n = ((b + n.toNat : Nat) : Int) := by omega
    dsimp only
    rw [eb]
    refine ⟨_, rfl, _, rfl, a, xs, b + n.toNat, rfl, hS.to s1, fun e H2 he s2 => qe e H2 (by rw [he]) (s1.trans s2), fun d H2 hd s2 => ?_⟩
    rw [hd] at q
    have hdl : b + n.toNat ≤ xs.length := by
      unfold rdPad at hd
      split at hd
      · cases hd
      · omega
    refine ⟨_, rfl, _, rfl, _, rfl, _, rfl, _, rfl, a, _, rfl, (s1.trans s2).seq hS.at_, fun v hv => ?_⟩
    rw [cut_ints (by omega) hdl, show b + n.toNat - b = n.toNat by omega]
    refine ⟨_, rfl, len_line (by show 2 ≤ 100000; decide), fun t2 ht2 => ?_⟩
    have x1 : Ext U H U H2 := ⟨Same.refl U, sU.trans (s1.trans s2), s1.trans s2, fun _ h => Or.inl h⟩
    have x2 := Ext.new (o := .lst (((xs.drop b).take n.toNat).map V.int)) x1.vh hv
    exact q _ _ v t2 _ _ rfl ((x1.trans x2).trans (Ext.skip x2.vh ht2)) upd_same (SqT.of upd_same)
/-! ### _read_text -/
theorem rdNum_nn {xs : List Int} (ho : okOcts xs) {p : Nat} {n : Int} {b : Nat} (he : rdNum xs p = .ok (n, b)) : 0 ≤ n := by
  unfold rdNum at he
  split at he
  · cases he
  · cases he
    rw [numAt4]
    have := ho.get p; have := ho.get (p + 1); have := ho.get (p + 2); have := ho.get (p + 3)
    omega
theorem rdPad_le {xs : List Int} {e b : Nat} (h : rdPad xs e = .ok b) : b = e + padN e ∧ b ≤ xs.length := by
  unfold rdPad at h
  split at h
  · cases h
  · split at h
    · cases h
    · cases h
      exact ⟨rfl, by omega⟩
theorem codesS_len (cs : List Int) : (codesS cs).length = cs.length := by show (cs.map Int.toNat).toArray.size = _; rw [List.size_toArray, List.length_map]
def sp__read_text (K : PySem.W.Frag) (c : RErr → Addr) : Sp := fun vs H Q E => ∃ (a : Addr) (xs : List Int) (p : Nat), vs = [.ref a, .int (p : Int)] ∧ Src K H a xs ∧
  (∀ e H', rdText xs p = .error e → Same H H' → E (.ref (c e)) none H') ∧ (∀ z b t H', rdText xs p = .ok (z, b) → z.length < 80000 → Same H H' → SqT K H' t [.str z, .int (b : Int)] → Q (.ref t) H')
theorem sc__read_text : FnScope ["octets", "at", "length", "begin", "end", "codes", "code", "behind"] ["octets", "at"] (defScope s__read_text) := ⟨rfl, rfl, rfl, by decide +kernel, rfl, by decide +kernel, by decide +kernel⟩
theorem ok__read_text (T : Txt K mg A) : FnOk P w K mg base (L2.CX P w) 3 A.f_read_text A.d_read_text ["octets", "at"] (sp__read_text K (errOf A)) := by
  refine T.F_read_text.okX sc__read_text (fun vs H Q E h => ?_) (fun cdv Ar outer s H vs Q E hr h => ?_)
  · obtain ⟨a, xs, p, rfl, _⟩ := h
    rfl
  · obtain ⟨a, xs, p, rfl, hS, qe, q⟩ := h
    refine ⟨_, (pss_cons (ps_asg (pe_call (ok__read_number T) (hr.mono (by decide)) rfl T.g_read_number T.k_read_number T.b_read_number .nil (passes_call (takes_of rfl rfl rfl rfl) (fun _ _ _ _ h => h)) (pa_cons (pv 0) (pa_cons (pv 1) pa_nil))) (pg_tup rfl (pgs_cons (pg_name (i := 2) sc__read_text.nd rfl (Or.inl rfl)) (pgs_cons (pg_name (i := 3) sc__read_text.nd rfl (Or.inl rfl)) pgs_nil))))
      (pss_cons (ps_if (pt_not (pt_chain op_le op_le pe_int (pv 2) (pe_op op_add (pe_glob (v := .int (1000)) rfl T.gLONGEST_TEXT ⟨_, rfl⟩) pe_int)))
      (pss_one (ps_raise rfl (takes_of rfl rfl rfl rfl) (pmk_own PySem.F.excBase_ValueError T.xBadLength T.gBadLength T.kBadLength (raises_own T.bxBadLength T.txBadLength) rfl)))
      pss_nil)
      (pss_cons (ps_set (i := 4) sc__read_text.nd rfl (Or.inl rfl) (pe_op op_add (pv 3) (pv 2)))
      (pss_cons (ps_expr (pe_call (ok__demand T) (hr.mono (by decide)) rfl T.g_demand T.k_demand T.b_demand .nil (passes_call (takes_of rfl rfl rfl rfl) (fun _ _ _ _ h => h)) (pa_cons (pv 0) (pa_cons (pv 4) pa_nil))))
      (pss_cons (ps_set (i := 5) sc__read_text.nd rfl (Or.inl rfl) (pe_slice (r := rSlL K) sl_list (pv 0) (po_some (pv 3)) (po_some (pe_op op_sub (pv 4) pe_int))))
      (pss_cons (ps_if (PW.pt (pw_or (pt_cmpR op_ne (pe_ix (r := rIxL K) ix_list (pv 0) (pe_op op_sub (pv 4) pe_int) (fun _ _ => rfl)) pe_int (nomark _)) (pw_or1 (pt_not (pt_val (pe_callB (cr_all rfl) (by rfl) T.all (by decide +kernel) (pa_cons (pe_lc (own := [("code", 6)]) (g := (gName 6)) (tt := tYes) rfl sc__read_text.nd (pi_list (pv 5)) (blkOk_by (own := [("code", 6)]) (N := ["octets", "at", "length", "begin", "end", "codes", "code", "behind"]) (sc := defScope s__read_text) (by decide +kernel)) (fun _ _ _ _ _ => (pg_name (i := 6) sc__read_text.nd rfl (Or.inl rfl))) (fun _ _ _ _ _ => pts_nil) (fun _ _ _ _ _ => by exact (pe_call (ok__is_code T) (hr.mono (by decide)) rfl T.g_is_code T.k_is_code T.b_is_code .nil pass0 (pa_cons (pv 6) pa_nil)))) pa_nil)))))))
      (pss_one (ps_raise rfl (takes_of rfl rfl rfl rfl) (pmk_own PySem.F.excBase_ValueError T.xBadText T.gBadText T.kBadText (raises_own T.bxBadText T.txBadText) rfl)))
      pss_nil)
      (pss_cons (ps_set (i := 7) sc__read_text.nd rfl (Or.inl rfl) (pe_call (ok__behind_padding T) (hr.mono (by decide)) rfl T.g_behind_padding T.k_behind_padding T.b_behind_padding .nil (passes_call (takes_of rfl rfl rfl rfl) (fun _ _ _ _ h => h)) (pa_cons (pv 0) (pa_cons (pv 4) pa_nil))))
      (pss_one (ps_ret (pe_tup (pa_cons (pe_join pe_str (pe_lc (own := [("code", 6)]) (g := (gName 6)) (tt := tYes) rfl sc__read_text.nd (pi_list (pv 5)) (blkOk_by (own := [("code", 6)]) (N := ["octets", "at", "length", "begin", "end", "codes", "code", "behind"]) (sc := defScope s__read_text) (by decide +kernel)) (fun _ _ _ _ _ => (pg_name (i := 6) sc__read_text.nd rfl (Or.inl rfl))) (fun _ _ _ _ _ => pts_nil) (fun _ _ _ _ _ => by exact (pe_ix (r := rIxS) ix_str (pe_glob (v := .str " !\"#$ &'()*+,-./0123456789:;<=>?@ABCDEFGHIJKLMNOPQRSTUVWXYZ[\\]^_`abcdefghijklmnopqrstuvwxyz{|}~") rfl T.g_CHARACTERS ⟨_, rfl⟩) (pe_op op_sub (pv 6) (pe_glob (v := .int (32)) rfl T.g_FIRST_CODE ⟨_, rfl⟩)) (fun _ _ => rfl))))) (pa_cons (pv 7) pa_nil)))))))))))), ?_⟩
    unfold rdText at qe q
    refine ⟨_, rfl, _, rfl, a, xs, p, rfl, hS, fun e he => qe e H (by rw [he]) (Same.refl H), fun n b t H1 he s1 ht => ?_⟩
    rw [he] at qe q
    dsimp only at qe q
    have hn0 := rdNum_nn hS.ok he
    refine ⟨t, _, rfl, ht, rfl, _, _, rfl, _, _, rfl, rfl, ?_⟩
    have bad : ¬ (1 ≤ n ∧ n ≤ 1001) → E (.ref A.CBadLength) none H1 := fun c => qe .len H1 (if_pos c) s1
    refine ⟨_, rfl, _, _, rfl, rfl, _, rfl, iteP (fun c1 => ?_) (fun c1 => ⟨_, rfl, if_t rfl (bad fun z => c1 z.1)⟩)⟩
    refine ⟨_, _, rfl, rfl, _, _, rfl, rfl, _, rfl, iteN (fun c2 => bad fun z => c2 z.2) (fun c2 => ?_)⟩
    have c2' : n ≤ 1001 := c2
    rw [if_neg (fun z => z ⟨c1, c2'⟩)] at qe q
    refine ⟨_, rfl, _, rfl, _, _, rfl, rfl, ?_⟩
    have eb : (b : Int) + n = ((b + n.toNat : Nat) : Int) := by omega
    dsimp only
    rw [eb]
    refine ⟨_, rfl, _, rfl, a, xs, b + n.toNat, rfl, (hS.to s1).at_, fun c => qe .len H1 (if_pos c) s1, fun c3 => ?_⟩
    rw [if_neg c3] at qe q
    refine ⟨_, rfl, _, rfl, _, rfl, _, rfl, _, _, rfl, rfl, _, rfl, a, _, rfl, (hS.to s1).at_, fun v hv => ?_⟩
    have eb2 : ((b + n.toNat : Nat) : Int) - 1 = ((b + n.toNat - 1 : Nat) : Int) := by omega
    dsimp only
    rw [eb2, cut_ints (by omega) (by omega), show b + n.toNat - 1 - b = n.toNat - 1 by omega]
    generalize hcs : (xs.drop b).take (n.toNat - 1) = cs at qe q
    have hcl : cs.length ≤ 1000 := by rw [← hcs, List.length_take]; omega
    have s2 : Same H (upd H1 v (.lst (cs.map V.int))) := s1.trans (same_upd hv)
    have hv2 : (upd H1 v (.lst (cs.map V.int))) v = some (.lst (cs.map V.int)) := upd_same
    generalize upd H1 v (.lst (cs.map V.int)) = H2 at s2 hv2
    have bad2 : (xs.getD (b + n.toNat - 1) 0 ≠ 0 ∨ cs.all codeOk = false) → ∀ H', Same H H' → E (.ref A.CBadText) none H' := fun c H' s => qe .text H' (if_pos c) s
    refine ⟨_, rfl, _, rfl, _, _, rfl, rfl, a, _, _, .int (xs.getD (b + n.toNat - 1) 0), rfl, rfl, s2.seq hS.at_, at_of (j := b + n.toNat - 1) (by omega) (getD_at (by omega)), rfl, _, rfl, iteNe (fun c => if_t rfl (bad2 (Or.inl c) H2 s2)) (fun c4 => ?_)⟩
    refine ⟨_, rfl, v, rfl, ⟨_, SqL.of hv2⟩, fun D hD => ?_⟩
    refine lc_dp (walk_list (K := K) (a := v) (xs := cs.map V.int)) (K := K) (V0 := H2) (H0 := H2) (fun i => (cs[i]?).map fun x => PyData.bool (codeOk x)) [some (.ref a), some (.int (p : Int)), some (.int n), some (.int (b : Int)), some (.int ((b + n.toNat : Nat) : Int)), some (.ref v), none, none] rfl (Same.refl _) hD (by rw [List.length_map]; omega) (fun H' s => s.seq (SqL.of hv2)) (fun i x H H' y => y.1) ?_ ?_
    · rintro i x U H3 hi xx ⟨_, hx⟩ Qy Qn hy _
      rw [List.getElem?_map] at hx
      obtain ⟨z, hz, rfl⟩ := Option.map_eq_some_iff.mp hx
      exact ⟨rfl, _, rfl, z, rfl, hy _ _ _ _ (by rw [hz]; rfl) (Ext.refl xx.vh) (.bl _)⟩
    rintro U H3 _ xx _ _ dl
    rw [List.length_map, show fm (fun i => (cs[i]?).map fun x => PyData.bool (codeOk x)) cs.length = (cs.map codeOk).map PyData.bool from by
      rw [List.map_map]; exact fm_list _ _ _ rfl _ fun i x hx => by rw [hx]; rfl] at dl
    refine ⟨D, _, rfl, xx.vh.seq (dp_boolsL dl), ?_⟩
    have s3 := s2.trans xx.hh
    have hv3 := xx.hh _ _ hv2
    rw [List.all_map, show (id ∘ codeOk) = codeOk from rfl]
    cases hall : cs.all codeOk with
    | false => exact ⟨_, rfl, bad2 (Or.inr hall) H3 s3⟩
    | true =>
      rw [if_neg (fun z => z.elim (fun z => z c4) (fun z => by rw [hall] at z; cases z))] at qe q
      refine ⟨_, rfl, ?_⟩
      refine ⟨_, rfl, _, rfl, a, xs, b + n.toNat, rfl, hS.to s3, fun e H4 he s4 => qe e H4 (by rw [he]) (s3.trans s4), fun d H4 hd s4 => ?_⟩
      rw [hd] at q
      have hv4 := s4 _ _ hv3
      have s4' := s3.trans s4
      refine ⟨⟨_, rfl⟩, _, rfl, v, rfl, ⟨_, SqL.of hv4⟩, fun D2 hD2 => ?_⟩
      refine lc_dp (walk_list (K := K) (a := v) (xs := cs.map V.int)) (K := K) (V0 := H4) (H0 := H4) (fun i => (cs[i]?).map fun x => PyData.str ⟨#[x.toNat]⟩) [some (.ref a), some (.int (p : Int)), some (.int n), some (.int (b : Int)), some (.int ((b + n.toNat : Nat) : Int)), some (.ref v), none, some (.int (d : Int))] rfl (Same.refl _) hD2 (by rw [List.length_map]; omega) (fun H' s => s.seq (SqL.of hv4)) (fun i x H H' y => y.1) ?_ ?_
      · rintro i x U5 H5 hi xx5 ⟨_, hx⟩ Qy Qn hy _
        rw [List.getElem?_map] at hx
        obtain ⟨z, hz, rfl⟩ := Option.map_eq_some_iff.mp hx
        obtain ⟨k0, kc⟩ := chars_at (List.all_eq_true.mp hall z (List.mem_of_getElem? hz))
        exact ⟨rfl, _, rfl, _, _, rfl, rfl, _, _, z.toNat, rfl, rfl, by decide +kernel, at_of' (Int.toNat_of_nonneg k0).symm kc, hy _ _ _ _ (by rw [hz]; rfl) (Ext.refl xx5.vh) (.str _)⟩
      rintro U5 H5 ys xx5 hDU dl5 _
      rw [List.length_map, show fm (fun i => (cs[i]?).map fun x => PyData.str ⟨#[x.toNat]⟩) cs.length = ((cs.map Int.toNat).map fun c => (⟨#[c]⟩ : Str)).map PyData.str from by
        rw [List.map_map, List.map_map]; exact fm_list _ _ _ rfl _ fun i x hx => by rw [hx]; rfl] at dl5
      have e5 := dp_strsV dl5
      subst e5
      refine ⟨⟨#[]⟩, D2, (cs.map Int.toNat).map fun c => (⟨#[c]⟩ : Str), by decide +kernel, rfl, .inl (SqL.of (xx5.vh _ _ hDU)), ?_, ?_⟩
      · have e : ∀ cs : List Nat, ((cs.map fun c => (⟨#[c]⟩ : Str)).map (·.length)).sum = cs.length := by
          intro cs
          induction cs with
          | nil => rfl
          | cons c cs ih => rw [List.map_cons, List.map_cons, List.sum_cons, ih]; show 1 + cs.length = cs.length + 1; omega
        rw [e, List.length_map]; show cs.length + _ * 0 ≤ _; omega
      · rw [join_singles]
        refine ⟨_, rfl, len_line (by show 2 ≤ 100000; decide), fun t5 ht5 => ?_⟩
        exact q (codesS cs) d t5 _ rfl (by rw [codesS_len]; omega) (s4'.trans (xx5.hh.trans (same_upd ht5))) (SqT.of upd_same)
/-! ### _read, read_arguments -/
def sp__read (K : PySem.W.Frag) (c : RErr → Addr) : Sp := fun vs H Q E => ∃ (k : Str) (a : Addr) (xs : List Int) (p : Nat) (U : Hp), vs = [.str k, .ref a, .int (p : Int)] ∧ Src K H a xs ∧ Same U H ∧
  (∀ e H', rdKind k xs p = .error e → Same H H' → E (.ref (c e)) none H') ∧
  (∀ x b v t U' H', rdKind k xs p = .ok (x, b) → Ext U H U' H' → ArgAt K U' v x → SqT K H' t [v, .int (b : Int)] → Q (.ref t) H')
theorem sc__read : FnScope ["kind", "octets", "at", "text", "behind", "number"] ["kind", "octets", "at"] (defScope s__read) := ⟨rfl, rfl, rfl, by decide +kernel, rfl, by decide +kernel, by decide +kernel⟩
theorem ok__read (T : Txt K mg A) : FnOk P w K mg base (L2.CX P w) 4 A.f_read A.d_read ["kind", "octets", "at"] (sp__read K (errOf A)) := by
  refine T.F_read.okX sc__read (fun vs H Q E h => ?_) (fun cdv Ar outer s H vs Q E hr h => ?_)
  · obtain ⟨k, a, xs, p, U, rfl, _⟩ := h
    rfl
  · obtain ⟨k, a, xs, p, U, rfl, hS, sU, qe, q⟩ := h
    refine ⟨_, (pss_cons (ps_if (pt_cmpR op_eq (pv 0) pe_str (nomark _))
      (pss_one (ps_ret (pe_call (ok__read_text T) (hr.mono (by decide)) rfl T.g_read_text T.k_read_text T.b_read_text .nil (passes_call (takes_of rfl rfl rfl rfl) (fun _ _ _ _ h => h)) (pa_cons (pv 1) (pa_cons (pv 2) pa_nil)))))
      pss_nil)
      (pss_cons (ps_if (pt_cmpR op_eq (pv 0) pe_str (nomark _))
      (pss_one (ps_ret (pe_call (ok__read_octets T) (hr.mono (by decide)) rfl T.g_read_octets T.k_read_octets T.b_read_octets .nil (passes_call (takes_of rfl rfl rfl rfl) (fun _ _ _ _ h => h)) (pa_cons (pv 1) (pa_cons (pv 2) pa_nil)))))
      pss_nil)
      (pss_cons (ps_if (pt_cmpR op_eq (pv 0) pe_str (nomark _))
      (pss_cons (ps_asg (pe_call (ok__read_text T) (hr.mono (by decide)) rfl T.g_read_text T.k_read_text T.b_read_text .nil (passes_call (takes_of rfl rfl rfl rfl) (fun _ _ _ _ h => h)) (pa_cons (pv 1) (pa_cons (pv 2) pa_nil))) (pg_tup rfl (pgs_cons (pg_name (i := 3) sc__read.nd rfl (Or.inl rfl)) (pgs_cons (pg_name (i := 4) sc__read.nd rfl (Or.inl rfl)) pgs_nil))))
      (pss_cons (ps_asg (pe_call (ok__read_named T) (hr.mono (by decide)) rfl T.g_read_named T.k_read_named T.b_read_named .nil (passes_call (takes_of rfl rfl rfl rfl) (fun _ _ _ _ h => h)) (pa_cons (pv 1) (pa_cons (pv 4) pa_nil))) (pg_tup rfl (pgs_cons (pg_name (i := 5) sc__read.nd rfl (Or.inl rfl)) (pgs_cons (pg_name (i := 4) sc__read.nd rfl (Or.inl rfl)) pgs_nil))))
      (pss_one (ps_ret (pe_tup (pa_cons (pe_tup (pa_cons (pv 3) (pa_cons (pv 5) pa_nil))) (pa_cons (pv 4) pa_nil)))))))
      pss_nil)
      (C8.pss_cut (ps_if (PW.pt (pw_or (pt_cmpR op_eq (pv 0) pe_str (nomark _)) (pw_or1 (pt_cmpR op_eq (pv 0) pe_str (nomark _)))))
      (pss_one (ps_ret (pe_call (ok__read_named T) (hr.mono (by decide)) rfl T.g_read_named T.k_read_named T.b_read_named .nil (passes_call (takes_of rfl rfl rfl rfl) (fun _ _ _ _ h => h)) (pa_cons (pv 1) (pa_cons (pv 2) pa_nil)))))
      pss_nil)
      (pss_cons (ps_asg (pe_call (ok__read_number T) (hr.mono (by decide)) rfl T.g_read_number T.k_read_number T.b_read_number .nil (passes_call (takes_of rfl rfl rfl rfl) (fun _ _ _ _ h => h)) (pa_cons (pv 1) (pa_cons (pv 2) pa_nil))) (pg_tup rfl (pgs_cons (pg_name (i := 5) sc__read.nd rfl (Or.inl rfl)) (pgs_cons (pg_name (i := 4) sc__read.nd rfl (Or.inl rfl)) pgs_nil))))
      (C8.pss_cut (ps_if (PW.pt (pw_and (pt_cmpR op_eq (pv 0) pe_str (nomark _)) (pw_and1 (pt_cmpR op_gt (pv 5) (pe_glob (v := .int (2147483647)) rfl T.gGREATEST_INT ⟨_, rfl⟩) (nomark _)))))
      (pss_one (ps_aug (i := 5) sc__read.nd rfl (Or.inl rfl) (pe_op op_pow pe_int pe_int) ip_sub))
      pss_nil)
      (pss_one (ps_ret (pe_tup (pa_cons (pv 5) (pa_cons (pv 4) pa_nil))))))))))), ?_⟩
    unfold rdKind at qe q
    have xk : ∀ {H1 : Hp}, Same H H1 → Ext U H U H1 := fun s => ⟨Same.refl U, sU.trans s, s, fun _ h => Or.inl h⟩
    refine ⟨_, rfl, rfl, _, rfl, if_b (fun c => ?_) (fun c => ?_)⟩
    · have e : k = "text" := V.str.inj (of_decide_eq_true c)
      rw [if_pos e] at qe q
      refine ⟨_, rfl, _, rfl, a, xs, p, rfl, hS, fun e H' he s => qe e H' (by rw [he]) s, fun z b t H' he hz s ht => ?_⟩
      exact q (.txt z) b (.str z) t U H' (by rw [he]) (xk s) ⟨rfl, hz⟩ ht
    have n1 : ¬ k = "text" := fun z => by rw [z, decide_eq_true rfl] at c; cases c
    rw [if_neg n1] at qe q
    refine ⟨_, rfl, rfl, _, rfl, if_b (fun c => ?_) (fun c => ?_)⟩
    · have e : k = "octets" := V.str.inj (of_decide_eq_true c)
      rw [if_pos e] at qe q
      refine ⟨_, rfl, _, rfl, a, xs, p, U, rfl, hS, sU, fun e H' he s => qe e H' (by rw [he]) s, fun ys b v t U' H' he hx hv ht => ?_⟩
      refine q (.oct ys) b (.ref v) t U' H' (by rw [he]) hx ⟨v, rfl, hv, ?_⟩ ht
      unfold rdOcts at he
      have := hS.len
      split at he
      · cases he
      · split at he
        · cases he
        · split at he
          · cases he
          · cases he
            rw [List.length_take, List.length_drop]; omega
    have n2 : ¬ k = "octets" := fun z => by rw [z, decide_eq_true rfl] at c; cases c
    rw [if_neg n2] at qe q
    refine ⟨_, rfl, rfl, _, rfl, if_b (fun c => ?_) (fun c => ?_)⟩
    · have e : k = "bound" := V.str.inj (of_decide_eq_true c)
      rw [if_pos e] at qe q
      unfold rdBound at qe q
      refine ⟨_, rfl, _, rfl, a, xs, p, rfl, hS, fun e H' he s => qe e H' (by rw [he]) s, fun z b t H1 he hz s1 ht => ?_⟩
      rw [he] at qe q
      dsimp only at qe q
      refine ⟨t, _, rfl, ht, rfl, _, _, rfl, _, _, rfl, rfl, ?_⟩
      refine ⟨_, rfl, _, rfl, a, xs, b, rfl, hS.to s1, fun e H' he s => qe e H' (by rw [he]) (s1.trans s), fun n d t2 H2 he2 s2 ht2 => ?_⟩
      rw [he2] at q
      refine ⟨t2, _, rfl, ht2, rfl, _, _, rfl, _, _, rfl, rfl, ?_⟩
      refine ⟨_, rfl, _, rfl, len_line (by show 2 ≤ 100000; decide), fun v hv => ?_⟩
      refine ⟨_, rfl, len_line (by show 2 ≤ 100000; decide), fun t3 ht3 => ?_⟩
      have x1 := (xk (s1.trans s2)).trans (Ext.new (o := .tup [.str z, .int n]) (xk (s1.trans s2)).vh hv)
      exact q (.bnd z n) d (.ref v) t3 _ _ rfl (x1.trans (Ext.skip x1.vh ht3)) ⟨v, rfl, SqT.of upd_same, hz⟩ (SqT.of upd_same)
    have n3 : ¬ k = "bound" := fun z => by rw [z, decide_eq_true rfl] at c; cases c
    rw [if_neg n3] at qe q
    refine ⟨fun σ' H' => σ' = [some (.str k), some (.ref a), some (.int (p : Int)), none, none, none] ∧ H' = H ∧ ¬ (k = "object" ∨ k = "new"), ?_, ?_⟩
    · have both : (k = "object" ∨ k = "new") → ∀ (Q' : VK), Q' = Q → sp__read_named K (errOf A) [.ref a, .int (p : Int)] H Q' E := fun e Q' eq => by
        subst eq
        rw [if_pos e] at qe q
        refine ⟨a, xs, p, rfl, hS, fun e H' he s => qe e H' (by rw [he]) s, fun n b t H' he s ht => ?_⟩
        exact q (.num n) b (.int n) t U H' (by rw [he]) (xk s) rfl ht
      refine ⟨_, rfl, rfl, _, rfl, if_b (fun c => ?_) (fun c => ?_)⟩
      · exact if_t rfl ⟨_, rfl, _, rfl, both (Or.inl (V.str.inj (of_decide_eq_true c))) _ rfl⟩
      refine ⟨_, rfl, rfl, _, rfl, if_b (fun c2 => ?_) (fun c2 => ?_)⟩
      · exact ⟨_, rfl, _, rfl, both (Or.inr (V.str.inj (of_decide_eq_true c2))) _ rfl⟩
      · exact ⟨rfl, rfl, fun z => by
          rcases z with z | z
          · rw [z, decide_eq_true rfl] at c; cases c
          · rw [z, decide_eq_true rfl] at c2; cases c2⟩
    rintro σ' H' ⟨rfl, e, n4⟩
    obtain rfl : H = H' := e.symm
    rw [if_neg n4] at qe q
    refine ⟨_, rfl, _, rfl, a, xs, p, rfl, hS, fun e he => qe e H (by rw [he]) (Same.refl H), fun n b t H1 he s1 ht => ?_⟩
    rw [he] at qe q
    dsimp only at qe q
    refine ⟨t, _, rfl, ht, rfl, _, _, rfl, _, _, rfl, rfl, ?_⟩
    refine ⟨fun σ' H' => σ' = [some (.str k), some (.ref a), some (.int (p : Int)), none, some (.int (b : Int)), some (.int (if k = "int" ∧ 2147483647 < n then n - 4294967296 else n))] ∧ H' = H1, ?_, ?_⟩
    · refine ⟨_, rfl, rfl, _, rfl, if_b (fun c => ?_) (fun c => if_f rfl ⟨?_, rfl⟩)⟩
      · have e : k = "int" := V.str.inj (of_decide_eq_true c)
        refine ⟨_, rfl, _, _, rfl, rfl, _, rfl, iteP (fun c2 => ?_) (fun c2 => ⟨?_, rfl⟩)⟩
        · have c2' : 2147483647 < n := c2
          rw [if_pos ⟨e, c2'⟩]
          refine ⟨_, rfl, _, _, rfl, rfl, ⟨by decide, by decide, by decide⟩, _, _, rfl, rfl, ?_, rfl⟩
          rw [show (2 : Int) ^ (32 : Int).toNat = 4294967296 by decide +kernel]; rfl
        · have c2' : ¬ 2147483647 < n := c2
          rw [if_neg (fun z => c2' z.2)]; rfl
      · rw [if_neg (fun z => by rw [z.1, decide_eq_true rfl] at c; cases c)]; rfl
    rintro σ' H' ⟨rfl, e⟩
    obtain rfl : H1 = H' := e.symm
    exact ⟨_, rfl, _, rfl, len_line (by show 2 ≤ 100000; decide), fun t3 ht3 => q (.num _) b (.int _) t3 U _ rfl (xk (s1.trans (same_upd ht3))) rfl (SqT.of upd_same)⟩
/-- read_arguments: the kinds from the i-th on -/
def rdAll (xs : List Int) : List Str → Nat → Except RErr (List AV × Nat)
  | [], p => .ok ([], p)
  | k :: ks, p => match rdKind k xs p with
    | .error e => .error e
    | .ok (x, b) => match rdAll xs ks b with
      | .error e => .error e
      | .ok (r, c) => .ok (x :: r, c)
def rdArgs (xs : List Int) (ks : List Str) : Except RErr (List AV) := match rdAll xs ks 0 with
  | .error e => .error e
  | .ok (r, c) => if c < xs.length then .error .len else .ok r
/-- the values of a list, one by one -/
def ValsAt (K : PySem.W.Frag) (H : Hp) (vs : List V) (rs : List AV) : Prop := vs.length = rs.length ∧ ∀ (i : Nat) (v : V), vs[i]? = some v → ∃ x, rs[i]? = some x ∧ ArgAt K H v x
theorem ValsAt.nil {K : PySem.W.Frag} {H : Hp} : ValsAt K H [] [] := ⟨rfl, fun i x hx => by cases i <;> cases hx⟩
theorem ValsAt.to {K : PySem.W.Frag} {H H' : Hp} {vs : List V} {rs : List AV} (h : ValsAt K H vs rs) (s : Same H H') : ValsAt K H' vs rs := by
  refine ⟨h.1, fun i v hv => ?_⟩
  obtain ⟨x, e1, e2⟩ := h.2 i v hv
  exact ⟨x, e1, e2.to s⟩
theorem ValsAt.push {K : PySem.W.Frag} {H : Hp} {vs : List V} {rs : List AV} (h : ValsAt K H vs rs) {v : V} {x : AV} (e : ArgAt K H v x) : ValsAt K H (vs ++ [v]) (rs ++ [x]) := by
  refine ⟨by rw [List.length_append, List.length_append, h.1]; rfl, fun i y hy => ?_⟩
  by_cases c : i < vs.length
  · rw [List.getElem?_append_left c] at hy
    obtain ⟨z, a1, a2⟩ := h.2 i y hy
    exact ⟨z, by rw [List.getElem?_append_left (by rw [← h.1]; exact c)]; exact a1, a2⟩
  · rw [List.getElem?_append_right (by omega)] at hy
    have hi : i - vs.length = 0 := by
      cases e : i - vs.length with
      | zero => rfl
      | succ n => rw [e] at hy; cases hy
    rw [hi] at hy
    refine ⟨x, ?_, by rw [← Option.some.inj hy]; exact e⟩
    rw [List.getElem?_append_right (by rw [← h.1]; omega), ← h.1, hi]; rfl
def sp_read_arguments (K : PySem.W.Frag) (c : RErr → Addr) : Sp := fun vs H Q E => ∃ (a b : Addr) (ks : List Str) (xs : List Int), vs = [.ref a, .ref b] ∧ SqL K H a (ks.map V.str) ∧ ks.length < 60000 ∧ Src K H b xs ∧
  (∀ e H', rdArgs xs ks = .error e → Same H H' → E (.ref (c e)) none H') ∧
  (∀ rs us p H', rdArgs xs ks = .ok rs → H p = none → Same H H' → H' p = some (.lst us) → ValsAt K H' us rs → Q (.ref p) H')
theorem sc_read_arguments : FnScope ["kinds", "octets", "values", "at", "kind", "value"] ["kinds", "octets"] (defScope s_read_arguments) := ⟨rfl, rfl, rfl, by decide +kernel, rfl, by decide +kernel, by decide +kernel⟩
theorem ok_read_arguments (T : Txt K mg A) : FnOk P w K mg base (L2.CX P w) 5 A.fread_arguments A.dread_arguments ["kinds", "octets"] (sp_read_arguments K (errOf A)) := by
  refine T.Fread_arguments.okX sc_read_arguments (fun vs H Q E h => ?_) (fun cdv Ar outer s H vs Q E hr h => ?_)
  · obtain ⟨a, b, ks, xs, rfl, _⟩ := h
    rfl
  · obtain ⟨a, b, ks, xs, rfl, hK, hkl, hS, qe, q⟩ := h
    refine ⟨_, (pss_cons (ps_set (i := 2) sc_read_arguments.nd rfl (Or.inl rfl) (pe_lst pa_nil))
      (pss_cons (ps_set (i := 3) sc_read_arguments.nd rfl (Or.inl rfl) pe_int)
      (pss_cons (ps_for (passes_of rfl) rfl (pi_list (pv 0)) (pg_name (i := 4) sc_read_arguments.nd rfl (Or.inl rfl))
      (pss_cons (ps_asg (pe_call (ok__read T) (hr.mono (by decide)) rfl T.g_read T.k_read T.b_read .nil (passes_call (takes_of rfl rfl rfl rfl) (fun _ _ _ _ h => h)) (pa_cons (pv 4) (pa_cons (pv 1) (pa_cons (pv 3) pa_nil)))) (pg_tup rfl (pgs_cons (pg_name (i := 5) sc_read_arguments.nd rfl (Or.inl rfl)) (pgs_cons (pg_name (i := 3) sc_read_arguments.nd rfl (Or.inl rfl)) pgs_nil))))
      (pss_one (ps_expr (pe_bm PySem.F.plainAttrs_list PySem.F.slot_list_append PySem.F.type_list_append mt_append (pv 2) (pa_cons (pv 5) pa_nil))))))
      (pss_cons (ps_if (pt_cmpR op_lt (pv 3) (pe_callB call_len_seq (by rfl) T.len PySem.boot_len (pa_cons (pv 1) pa_nil)) (nomark _))
      (pss_one (ps_raise rfl (takes_of rfl rfl rfl rfl) (pmk_own PySem.F.excBase_ValueError T.xBadLength T.gBadLength T.kBadLength (raises_own T.bxBadLength T.txBadLength) rfl)))
      pss_nil)
      (pss_one (ps_ret (pv 2))))))), ?_⟩
    unfold rdArgs at qe q
    refine ⟨len_line (by show 0 ≤ 100000; decide), fun p hp => ?_⟩
    have sp := same_upd (o := .lst []) hp
    refine ⟨_, rfl, a, rfl, ⟨_, sp.seq hK⟩, for_list (K := K) (a := a) (xs := ks.map V.str) (fun i σ H' => ∃ (pl : Nat) (v4 v5 : Option V) (U : Hp) (us : List V) (rs : List AV), σ = [some (.ref a), some (.ref b), some (.ref p), some (.int (pl : Int)), v4, v5] ∧ Ext H H U H' ∧ U p = none ∧ H' p = some (.lst us) ∧ ValsAt K U us rs ∧ us.length = i ∧
        rdAll xs ks 0 = (match rdAll xs (ks.drop i) pl with | .error e => .error e | .ok (r, c) => .ok (rs ++ r, c)))
      ⟨0, none, none, H, [], [], rfl, Ext.skip (Same.refl H) hp, hp, upd_same, ValsAt.nil, rfl, ?_⟩ (fun i σ H' _ ⟨_, _, _, _, _, _, _, x, _⟩ => x.hh.seq hK) ?_ ?_⟩
    · rw [List.drop_zero]
      cases rdAll xs ks 0 with
      | error e => rfl
      | ok r => rfl
    · rintro i x σ H1 hi ⟨pl, v4, v5, U, us, rs, rfl, x1, hU, hp1, hv, hl, hR⟩
      rw [List.getElem?_map] at hi
      obtain ⟨k, hk, rfl⟩ := Option.map_eq_some_iff.mp hi
      have hd : ks.drop i = k :: ks.drop (i + 1) := by
        have hil := (List.getElem?_eq_some_iff.mp hk).1
        rw [List.drop_eq_getElem_cons hil, (List.getElem?_eq_some_iff.mp hk).2]
      rw [hd] at hR
      refine ⟨_, rfl, _, rfl, _, rfl, k, b, xs, pl, U, rfl, hS.to x1.hh, x1.vh, fun e H2 he s2 => ?_, fun y c v t U2 H2 he x2 hy ht => ?_⟩
      · refine qe e H2 ?_ (x1.hh.trans s2)
        rw [hR]
        show (match (match rdAll xs (k :: ks.drop (i + 1)) pl with | .error e => .error e | .ok (r, c) => .ok (rs ++ r, c) : Except RErr (List AV × Nat)) with | .error e => .error e | .ok (r, c) => if c < xs.length then .error .len else .ok r : Except RErr (List AV)) = _
        unfold rdAll
        rw [he]
      · refine ⟨t, _, rfl, ht, rfl, _, _, rfl, _, _, rfl, rfl, ?_⟩
        have hp2 := x2.hh _ _ hp1
        have hU2 : U2 p = none := x2.keepOut hU (by rw [hp1]; exact fun z => by cases z)
        have hil := (List.getElem?_eq_some_iff.mp hk).1
        refine ⟨_, rfl, .inl ⟨rfl, _, SqL.of hp2⟩, _, rfl, p, us, v, rfl, rfl, hp2, lt_line (by omega), ?_⟩
        refine ⟨c, _, _, U2, us ++ [v], rs ++ [y], rfl, (x1.trans x2).poke hp hU2, hU2, upd_same, (hv.to x2.vv).push hy, by rw [List.length_append, hl]; rfl, ?_⟩
        rw [hR]
        conv => lhs; unfold rdAll
        rw [he]
        dsimp only
        cases rdAll xs (ks.drop (i + 1)) c with
        | error e => rfl
        | ok r => show Except.ok (rs ++ (y :: r.1), r.2) = Except.ok (rs ++ [y] ++ r.1, r.2); rw [List.append_assoc]; rfl
    · rintro σ H1 ⟨pl, v4, v5, U, us, rs, rfl, x1, hU, hp1, hv, hl, hR⟩
      rw [List.length_map, List.drop_length] at hR
      have hR' : rdAll xs ks 0 = .ok (rs, pl) := by rw [hR]; show Except.ok (rs ++ [], pl) = _; rw [List.append_nil]
      rw [hR'] at qe q
      dsimp only at qe q
      refine ⟨_, rfl, _, rfl, b, _, rfl, .inl (x1.hh.seq hS.at_), _, _, rfl, rfl, _, rfl, ?_⟩
      rw [List.length_map]
      refine iteP (fun c => qe .len H1 (if_pos (by omega)) x1.hh) (fun c => ?_)
      exact ⟨_, rfl, q rs us p H1 (if_neg (by omega)) hp x1.hh hp1 (hv.to x1.vh)⟩
/-! ### what the writer wrote, the reader reads: pure -/
def AtO (xs : List Int) (p : Nat) (l : List Int) : Prop := ∃ pre rest : List Int, xs = pre ++ (l ++ rest) ∧ pre.length = p
theorem AtO.left {xs l1 l2 : List Int} {p : Nat} (h : AtO xs p (l1 ++ l2)) : AtO xs p l1 := by
  obtain ⟨pre, rest, e, hp⟩ := h
  exact ⟨pre, l2 ++ rest, by rw [e, List.append_assoc], hp⟩
theorem AtO.right {xs l1 l2 : List Int} {p : Nat} (h : AtO xs p (l1 ++ l2)) : AtO xs (p + l1.length) l2 := by
  obtain ⟨pre, rest, e, hp⟩ := h
  exact ⟨pre ++ l1, rest, by rw [e, List.append_assoc, List.append_assoc], by rw [List.length_append, hp]⟩
theorem AtO.len {xs l : List Int} {p : Nat} (h : AtO xs p l) : p + l.length ≤ xs.length := by
  obtain ⟨pre, rest, e, hp⟩ := h
  rw [e, List.length_append, List.length_append]; omega
theorem AtO.take {xs l : List Int} {p : Nat} (h : AtO xs p l) : (xs.drop p).take l.length = l := by
  obtain ⟨pre, rest, rfl, rfl⟩ := h
  rw [List.drop_left, List.take_left]
theorem AtO.get {xs l : List Int} {p : Nat} (h : AtO xs p l) {i : Nat} (hi : i < l.length) : xs.getD (p + i) 0 = l.getD i 0 := by
  obtain ⟨pre, rest, rfl, rfl⟩ := h
  rw [List.getD_eq_getElem?_getD, List.getD_eq_getElem?_getD, List.getElem?_append_right (by omega), show pre.length + i - pre.length = i by omega, List.getElem?_append_left hi]
theorem octs4r (n : Int) : octs n 4 = [n / 1 % 256, n / 256 % 256, n / 65536 % 256, n / 16777216 % 256] := rfl
theorem rdNum_at {xs : List Int} {p : Nat} {n : Int} (h : AtO xs p (octs n 4)) (h0 : 0 ≤ n) (h1 : n < 4294967296) : rdNum xs p = .ok (n, p + 4) := by
  have hl := h.len
  rw [octs_len] at hl
  unfold rdNum
  rw [if_neg (by omega), numAt4]
  have e0 : xs.getD p 0 = n / 1 % 256 := h.get (i := 0) (by rw [octs_len]; decide)
  have e1 : xs.getD (p + 1) 0 = n / 256 % 256 := h.get (i := 1) (by rw [octs_len]; decide)
  have e2 : xs.getD (p + 2) 0 = n / 65536 % 256 := h.get (i := 2) (by rw [octs_len]; decide)
  have e3 : xs.getD (p + 3) 0 = n / 16777216 % 256 := h.get (i := 3) (by rw [octs_len]; decide)
  rw [e0, e1, e2, e3]
  congr 2
  omega
theorem rdNamed_at {xs : List Int} {p : Nat} {n : Int} (h : AtO xs p (octs n 4)) (h0 : 1 ≤ n) (h1 : n < 4294967296) : rdNamed xs p = .ok (n, p + 4) := by
  unfold rdNamed
  rw [rdNum_at h (by omega) h1]
  exact if_neg (by omega)
theorem padN_mod {a b : Nat} (h : a % 4 = b % 4) : padN a = padN b := by unfold padN; omega
theorem rdPad_at {xs : List Int} {e : Nat} (h : AtO xs e (List.replicate (padN e) 0)) : rdPad xs e = .ok (e + padN e) := by
  have hl := h.len
  have ht := h.take
  rw [List.length_replicate] at hl ht
  unfold rdPad
  rw [if_neg (by omega), ht, if_neg]
  rw [List.any_replicate]
  simp
theorem codesS_of (s : Str) : codesS (codesOf s) = s := by
  unfold codesS codesOf
  rw [List.map_map, show (Int.toNat ∘ fun c : Nat => (c : Int)) = id from by funext c; rfl, List.map_id]
theorem pad_mod (l : List Int) : (pad l).length % 4 = 0 := by rw [pad_len]; unfold padN; omega
theorem rdText_at {xs : List Int} {p : Nat} {s : Str} (h : AtO xs p (textOcts s)) (hp : p % 4 = 0) (ok : isText s = true) : rdText xs p = .ok (s, p + (textOcts s).length) := by
  unfold isText at ok
  rw [Bool.and_eq_true] at ok
  have hl := of_decide_eq_true ok.1
  have hall : (codesOf s).all codeOk = true := by
    unfold codesOf; rw [List.all_map]; exact ok.2
  unfold textOcts pad at h
  have a1 := h.left.left.left
  have a2 := h.left.left.right
  have a3 := h.left.right
  have a4 := h.right
  rw [octs_len] at a2
  have hcl := codesOf_len s
  rw [List.length_append, octs_len, hcl] at a3
  rw [List.length_append, List.length_append, octs_len, hcl] at a4
  have lin : ([(0 : Int)] : List Int).length = 1 := rfl
  rw [lin] at a4
  have ht := a2.take
  rw [hcl] at ht
  have hz := a3.get (i := 0) (by decide)
  have hxl := a4.len
  unfold rdText
  rw [rdNum_at a1 (by omega) (by omega)]
  dsimp only
  rw [show ((s.length : Int) + 1).toNat = s.length + 1 by omega]
  rw [if_neg (fun z => z ⟨by omega, by omega⟩), if_neg (by omega)]
  rw [show s.length + 1 - 1 = s.length by omega, ht, show p + 4 + (s.length + 1) - 1 = p + (4 + s.length) + 0 by omega, hz]
  rw [if_neg (fun z => z.elim (fun z => z rfl) (fun z => by rw [hall] at z; cases z))]
  rw [show p + 4 + (s.length + 1) = p + (4 + s.length + 1) by omega]
  rw [padN_mod (show (4 + s.length + 1) % 4 = (p + (4 + s.length + 1)) % 4 by omega)] at a4
  rw [rdPad_at a4]
  dsimp only
  rw [codesS_of]
  congr 2
  unfold textOcts
  rw [pad_len, List.length_append, List.length_append, octs_len, hcl, lin, padN_mod (show (p + (4 + s.length + 1)) % 4 = (4 + s.length + 1) % 4 by omega)]
  omega
theorem rdOcts_at {xs : List Int} {p : Nat} {ys : List Int} (h : AtO xs p (pad (octs ys.length 4 ++ ys))) (hp : p % 4 = 0) (ok : octsOk ys = true) : rdOcts xs p = .ok (ys, p + (pad (octs ys.length 4 ++ ys)).length) := by
  unfold octsOk at ok
  rw [Bool.and_eq_true] at ok
  have hl := of_decide_eq_true ok.1
  unfold pad at h
  have a1 := h.left.left
  have a2 := h.left.right
  have a4 := h.right
  rw [octs_len] at a2
  rw [List.length_append, octs_len] at a4
  have ht := a2.take
  unfold rdOcts
  rw [rdNum_at a1 (by omega) (by omega)]
  dsimp only
  rw [if_neg (by omega), show ((ys.length : Int)).toNat = ys.length by omega, ht]
  rw [show p + 4 + ys.length = p + (4 + ys.length) by omega]
  rw [padN_mod (show (4 + ys.length) % 4 = (p + (4 + ys.length)) % 4 by omega)] at a4
  rw [rdPad_at a4]
  dsimp only
  congr 2
  rw [pad_len, List.length_append, octs_len, padN_mod (show (p + (4 + ys.length)) % 4 = (4 + ys.length) % 4 by omega)]
  omega
theorem spec_mod {k : Str} {x : AV} {ok : Bool} {os : List Int} (h : ArgSpec k x ok os) : os.length % 4 = 0 := by
  cases h with
  | num h => rw [octs_len]
  | txt => exact pad_mod _
  | oct => exact pad_mod _
  | bnd =>
    rw [List.length_append, octs_len]
    rename_i s n
    have : (textOcts s).length % 4 = 0 := pad_mod _
    omega
theorem rdKind_at {xs : List Int} {p : Nat} {k : Str} {x : AV} {os : List Int} (hs : ArgSpec k x true os) (h : AtO xs p os) (hp : p % 4 = 0) : rdKind k xs p = .ok (x, p + os.length) := by
  generalize hb : true = ok at hs
  cases hs with
  | num hn =>
    rename_i lo hi i
    have hi := of_decide_eq_true hb.symm
    rw [octs_len]
    unfold rdKind
    cases hn with
    | uint =>
      rw [if_neg (by decide +kernel), if_neg (by decide +kernel), if_neg (by decide +kernel), if_neg (by decide +kernel), rdNum_at h (by omega) (by omega)]
      dsimp only
      rw [if_neg (fun z => absurd z.1 (by decide +kernel)), Int.emod_eq_of_lt (by omega) (by omega)]
    | maybe =>
      rw [if_neg (by decide +kernel), if_neg (by decide +kernel), if_neg (by decide +kernel), if_neg (by decide +kernel), rdNum_at h (by omega) (by omega)]
      dsimp only
      rw [if_neg (fun z => absurd z.1 (by decide +kernel)), Int.emod_eq_of_lt (by omega) (by omega)]
    | int =>
      rw [if_neg (by decide +kernel), if_neg (by decide +kernel), if_neg (by decide +kernel), if_neg (by decide +kernel), rdNum_at h (by omega) (by omega)]
      dsimp only
      by_cases c : 2147483647 < i % 4294967296
      · rw [if_pos ⟨rfl, c⟩, show i % 4294967296 - 4294967296 = i by omega]
      · rw [if_neg (fun z => c z.2), show i % 4294967296 = i by omega]
    | object =>
      rw [if_neg (by decide +kernel), if_neg (by decide +kernel), if_neg (by decide +kernel), if_pos (Or.inl rfl), rdNamed_at h (by omega) (by omega)]
      dsimp only
      rw [Int.emod_eq_of_lt (by omega) (by omega)]
    | new =>
      rw [if_neg (by decide +kernel), if_neg (by decide +kernel), if_neg (by decide +kernel), if_pos (Or.inr rfl), rdNamed_at h (by omega) (by omega)]
      dsimp only
      rw [Int.emod_eq_of_lt (by omega) (by omega)]
  | txt =>
    unfold rdKind
    rw [if_pos rfl, rdText_at h hp hb.symm]
  | oct =>
    unfold rdKind
    rw [if_neg (by decide +kernel), if_pos rfl, rdOcts_at h hp hb.symm]
  | bnd =>
    rename_i s n
    have hb' := hb.symm
    rw [Bool.and_eq_true] at hb'
    have hn := of_decide_eq_true hb'.2
    unfold rdKind rdBound
    rw [if_neg (by decide +kernel), if_neg (by decide +kernel), if_pos rfl, rdText_at h.left hp hb'.1]
    dsimp only
    rw [rdNamed_at h.right (by omega) (by omega)]
    dsimp only
    rw [List.length_append, octs_len, Nat.add_assoc]
theorem octs_ok {n : Int} {c : Nat} : okOcts (octs n c) := fun x hx => by
  obtain ⟨k, _, rfl⟩ := List.mem_map.mp hx
  exact ⟨Int.emod_nonneg _ (by decide), by have := Int.emod_lt_of_pos (n / 2 ^ (8 * k)) (show (0 : Int) < 256 by decide); omega⟩
theorem okOcts.app {a b : List Int} (h : okOcts a) (g : okOcts b) : okOcts (a ++ b) := fun x hx => (List.mem_append.mp hx).elim (h x) (g x)
theorem okOcts.pad {a : List Int} (h : okOcts a) : okOcts (pad a) := h.app fun x hx => by
  rw [(List.mem_replicate.mp hx).2]; decide
theorem textOcts_ok {s : Str} (ok : isText s = true) : okOcts (textOcts s) := by
  unfold isText at ok
  rw [Bool.and_eq_true] at ok
  refine ((octs_ok.app fun x hx => ?_).app fun x hx => ?_).pad
  · obtain ⟨c, hc, rfl⟩ := List.mem_map.mp hx
    have := of_decide_eq_true (List.all_eq_true.mp ok.2 c hc)
    omega
  · rw [List.mem_singleton.mp hx]; decide
theorem spec_ok {k : Str} {x : AV} {os : List Int} (hs : ArgSpec k x true os) : okOcts os := by
  generalize hb : true = ok at hs
  cases hs with
  | num => exact octs_ok
  | txt => exact textOcts_ok hb.symm
  | oct =>
    have hb' := hb.symm
    unfold octsOk at hb'
    rw [Bool.and_eq_true] at hb'
    exact (octs_ok.app fun x hx => of_decide_eq_true (List.all_eq_true.mp hb'.2 x hx)).pad
  | bnd =>
    have hb' := hb.symm
    rw [Bool.and_eq_true] at hb'
    exact (textOcts_ok hb'.1).app octs_ok
theorem body_ok {args : List Arg} (h : ∀ g ∈ args, ArgSpec g.kind g.val true g.os) : okOcts (bodyOf args) := fun x hx => by
  obtain ⟨g, hg, hx⟩ := List.mem_flatMap.mp hx
  exact spec_ok (h g hg) x hx
theorem rdAll_at {xs : List Int} : ∀ (args : List Arg) (p : Nat), (∀ g ∈ args, ArgSpec g.kind g.val true g.os) → AtO xs p (bodyOf args) → p % 4 = 0 → rdAll xs (args.map Arg.kind) p = .ok (args.map Arg.val, p + (bodyOf args).length)
  | [], p, _, _, _ => rfl
  | g :: r, p, hs, h, hp => by
    have h' : AtO xs p (g.os ++ bodyOf r) := h
    have hg := hs g List.mem_cons_self
    have hm := spec_mod hg
    have ih := rdAll_at r (p + g.os.length) (fun x hx => hs x (List.mem_cons_of_mem _ hx)) h'.right (by omega)
    show rdAll xs (g.kind :: r.map Arg.kind) p = _
    unfold rdAll
    rw [rdKind_at hg h'.left hp]
    dsimp only
    rw [ih]
    dsimp only
    show _ = Except.ok (_, p + (g.os ++ bodyOf r).length)
    rw [List.length_append, Nat.add_assoc]; rfl
theorem rdArgs_at {args : List Arg} (hs : ∀ g ∈ args, ArgSpec g.kind g.val true g.os) : rdArgs (bodyOf args) (args.map Arg.kind) = .ok (args.map Arg.val) := by
  unfold rdArgs
  rw [rdAll_at args 0 hs ⟨[], [], by rw [List.append_nil]; rfl, rfl⟩ rfl]
  dsimp only
  exact if_neg (by omega)
/-! ### the values as data -/
def avD : AV → PyData
  | .num i => .int i
  | .txt s => .str s
  | .oct xs => pInts xs
  | .bnd s n => .tuple [.str s, .int n]
theorem avD_at {K : PySem.W.Frag} {H : Hp} {v : V} {x : AV} (h : ArgAt K H v x) : Dp K H v (avD x) := by
  cases x with
  | num i => obtain rfl : v = .int i := h; exact .int i
  | txt s => obtain ⟨rfl, _⟩ := h; exact .str s
  | oct xs => obtain ⟨a, rfl, e, _⟩ := h; exact dp_ints (SqL.of e)
  | bnd s n => obtain ⟨a, rfl, e, _⟩ := h; exact .tup e (.cons (.str s) (.cons (.int n) .nil))
theorem text_strOk {s : Str} (ok : isText s = true) : PyData.strOk s = true := by
  unfold isText at ok
  rw [Bool.and_eq_true] at ok
  unfold PyData.strOk
  rw [← Array.all_toList, List.all_eq_true]
  intro c hc
  have := of_decide_eq_true (List.all_eq_true.mp ok.2 c hc)
  exact decide_eq_true (by omega)
theorem avD_sh {k : Str} {x : AV} {os : List Int} (hs : ArgSpec k x true os) : Sh 1 (avD x) := by
  generalize hb : true = ok at hs
  cases hs with
  | num => exact (sh_int _).mono (by decide)
  | txt => exact (sh_str (text_strOk hb.symm)).mono (by decide)
  | oct => exact sh_ints _
  | bnd =>
    have hb' := hb.symm
    rw [Bool.and_eq_true] at hb'
    refine sh_tuple fun d hd => ?_
    simp only [List.mem_cons, List.not_mem_nil, or_false] at hd
    rcases hd with rfl | rfl
    · exact sh_str (text_strOk hb'.1)
    · exact sh_int _
theorem dpall_of {K : PySem.W.Frag} {H : Hp} : ∀ {vs : List V} {ds : List PyData}, vs.length = ds.length → (∀ (i : Nat) (v : V), vs[i]? = some v → ∃ d, ds[i]? = some d ∧ Dp K H v d) → DpAll K H vs ds
  | [], [], _, _ => .nil
  | v :: vs, d :: ds, hl, h => by
    obtain ⟨d', e, q⟩ := h 0 v rfl
    obtain rfl := Option.some.inj e
    exact .cons q (dpall_of (Nat.succ.inj hl) fun i x hx => h (i + 1) x hx)
theorem ValsAt.dp {K : PySem.W.Frag} {H : Hp} {vs : List V} {rs : List AV} (h : ValsAt K H vs rs) : DpAll K H vs (rs.map avD) :=
  dpall_of (by rw [List.length_map]; exact h.1) fun i v hv => by
    obtain ⟨x, e, q⟩ := h.2 i v hv
    exact ⟨avD x, by rw [List.getElem?_map, e]; rfl, avD_at q⟩
/-! ### _law_told: the words of what reading raises -/
/-- a rule: isinstance(e, c) of the error that a named clause holds -/
def rIsEg (K : PySem.W.Frag) (cls : Value) (d : Option Addr) (a : Addr) : List V → Hp → VK → Prop := fun xs H Q => ∃ D : Addr, cls = .ref D ∧ d = none ∧ ExcC K D ∧ rIsE K D a xs H Q
theorem call_isEg {X : Cx} {a : Addr} {cls : Value} {d : Option Addr} {oe : Obj} {pn : List (Addr × Obj)} (hz : Zc cls d oe) (hf : ∃ vs, oe.data = .fields vs) : CallR (X.suite a ((a, oe) :: pn)) (.builtin "isinstance") (rIsEg X.K cls d a) := by
  intro pins s σ H xs us Q I r h
  obtain ⟨D, rfl, rfl, C, h⟩ := h
  exact call_isE C hz hf pins s σ H xs us Q I r h
def errWord : RErr → Str
  | .len => "length"
  | .text => "text"
  | .pad => "padding"
  | .miss => "missing"
def toldWord (xs : List Int) (ks : List Str) : Str := match rdArgs xs ks with
  | .error e => errWord e
  | .ok _ => "none"
def sp__law_told (K : PySem.W.Frag) : Sp := fun vs H Q _ => ∃ (a b : Addr) (ks : List Str) (xs : List Int), vs = [.ref a, .ref b] ∧ SqL K H a (ks.map V.str) ∧ ks.length < 60000 ∧ Src K H b xs ∧ ∀ H', Same H H' → Q (.str (toldWord xs ks)) H'
theorem sc__law_told : FnScope ["kinds", "octets", "e", "words"] ["kinds", "octets"] (defScope s__law_told) := ⟨rfl, rfl, rfl, by decide +kernel, rfl, by decide +kernel, by decide +kernel⟩
theorem ok__law_told (T : Txt K mg A) : FnOk P w K mg base CX0 6 A.f_law_told A.d_law_told ["kinds", "octets"] (sp__law_told K) := by
  refine T.F_law_told.ok sc__law_told (fun vs H Q E h => ?_) (fun cdv Ar outer s H vs Q E hr h => ?_)
  · obtain ⟨a, b, ks, xs, rfl, _⟩ := h
    rfl
  · obtain ⟨a, b, ks, xs, rfl, hK, hl, hS, q⟩ := h
    refine ⟨_, (pss_cons (ps_try_as (i := 2) rfl rfl sc__law_told.nd rfl rfl ⟨rfl, by decide, .inl T.gBadArguments⟩ takes0 (fun W pn xe tk _ => (pss_one (ps_expr (pe_callS (ok_read_arguments T) (hr.mono (by decide)) rfl T.gread_arguments T.kread_arguments T.bread_arguments (fun σ => passAt tk σ) (pa_cons (pv 0) (pa_cons (pv 1) pa_nil))))))
      (fun a oe cls d pn hz hf => (pss_cons (ps_set (i := 3) sc__law_told.nd rfl (Or.inl rfl) pe_str)
      (pss_cons (ps_if (pt_val (pe_callB (call_isEg hz hf) (by rfl) T.isinstance (by decide +kernel) (pa_cons (pv 2) (pa_cons (pe_glob (v := .ref A.CBadLength) rfl T.gBadLength rfl) pa_nil))))
      (pss_one (ps_set (i := 3) sc__law_told.nd rfl (Or.inl rfl) (pe_op op_add_str (pv 3) pe_str)))
      pss_nil)
      (pss_cons (ps_if (pt_val (pe_callB (call_isEg hz hf) (by rfl) T.isinstance (by decide +kernel) (pa_cons (pv 2) (pa_cons (pe_glob (v := .ref A.CBadText) rfl T.gBadText rfl) pa_nil))))
      (pss_one (ps_set (i := 3) sc__law_told.nd rfl (Or.inl rfl) (pe_op op_add_str (pv 3) pe_str)))
      pss_nil)
      (pss_cons (ps_if (pt_val (pe_callB (call_isEg hz hf) (by rfl) T.isinstance (by decide +kernel) (pa_cons (pv 2) (pa_cons (pe_glob (v := .ref A.CBadPadding) rfl T.gBadPadding rfl) pa_nil))))
      (pss_one (ps_set (i := 3) sc__law_told.nd rfl (Or.inl rfl) (pe_op op_add_str (pv 3) pe_str)))
      pss_nil)
      (pss_cons (ps_if (pt_val (pe_callB (call_isEg hz hf) (by rfl) T.isinstance (by decide +kernel) (pa_cons (pv 2) (pa_cons (pe_glob (v := .ref A.CObjectMissing) rfl T.gObjectMissing rfl) pa_nil))))
      (pss_one (ps_set (i := 3) sc__law_told.nd rfl (Or.inl rfl) (pe_op op_add_str (pv 3) pe_str)))
      pss_nil)
      (pss_one (ps_ret (pv 3))))))))))
      (pss_one (ps_ret pe_str))), ?_⟩
    unfold toldWord at q
    refine ⟨_, rfl, _, rfl, a, b, ks, xs, rfl, hK, hl, hS, fun e H' he s => ?_, fun rs us p H' he _ s _ _ => ?_⟩
    · rw [he] at q
      have q := q H' s
      cases e with
      | len =>
        refine ⟨true, T.exBadLength_BadArguments, (fun _ x hx => ?_), (fun z => nomatch z)⟩
        refine ⟨_, rfl, A.CBadLength, rfl, rfl, T.iEBadLength, _, _, _, rfl, (fun _ r => r), T.kitBadLength_BadLength, _, rfl, if_t rfl ⟨_, rfl, _, _, rfl, rfl, by decide +kernel, ?_⟩⟩
        refine ⟨_, rfl, A.CBadLength, rfl, rfl, T.iEBadLength, _, _, _, rfl, (fun _ r => r), T.kitBadLength_BadText, _, rfl, if_f rfl ?_⟩
        refine ⟨_, rfl, A.CBadLength, rfl, rfl, T.iEBadLength, _, _, _, rfl, (fun _ r => r), T.kitBadLength_BadPadding, _, rfl, if_f rfl ?_⟩
        refine ⟨_, rfl, A.CBadLength, rfl, rfl, T.iEBadLength, _, _, _, rfl, (fun _ r => r), T.kitBadLength_ObjectMissing, _, rfl, if_f rfl ?_⟩
        refine ⟨_, rfl, ?_⟩
        dsimp only
        rw [show ("" : Str) ++ "length" = "length" by decide +kernel]
        exact q
      | text =>
        refine ⟨true, T.exBadText_BadArguments, (fun _ x hx => ?_), (fun z => nomatch z)⟩
        refine ⟨_, rfl, A.CBadText, rfl, rfl, T.iEBadText, _, _, _, rfl, (fun _ r => r), T.kitBadText_BadLength, _, rfl, if_f rfl ?_⟩
        refine ⟨_, rfl, A.CBadText, rfl, rfl, T.iEBadText, _, _, _, rfl, (fun _ r => r), T.kitBadText_BadText, _, rfl, if_t rfl ⟨_, rfl, _, _, rfl, rfl, by decide +kernel, ?_⟩⟩
        refine ⟨_, rfl, A.CBadText, rfl, rfl, T.iEBadText, _, _, _, rfl, (fun _ r => r), T.kitBadText_BadPadding, _, rfl, if_f rfl ?_⟩
        refine ⟨_, rfl, A.CBadText, rfl, rfl, T.iEBadText, _, _, _, rfl, (fun _ r => r), T.kitBadText_ObjectMissing, _, rfl, if_f rfl ?_⟩
        refine ⟨_, rfl, ?_⟩
        dsimp only
        rw [show ("" : Str) ++ "text" = "text" by decide +kernel]
        exact q
      | pad =>
        refine ⟨true, T.exBadPadding_BadArguments, (fun _ x hx => ?_), (fun z => nomatch z)⟩
        refine ⟨_, rfl, A.CBadPadding, rfl, rfl, T.iEBadPadding, _, _, _, rfl, (fun _ r => r), T.kitBadPadding_BadLength, _, rfl, if_f rfl ?_⟩
        refine ⟨_, rfl, A.CBadPadding, rfl, rfl, T.iEBadPadding, _, _, _, rfl, (fun _ r => r), T.kitBadPadding_BadText, _, rfl, if_f rfl ?_⟩
        refine ⟨_, rfl, A.CBadPadding, rfl, rfl, T.iEBadPadding, _, _, _, rfl, (fun _ r => r), T.kitBadPadding_BadPadding, _, rfl, if_t rfl ⟨_, rfl, _, _, rfl, rfl, by decide +kernel, ?_⟩⟩
        refine ⟨_, rfl, A.CBadPadding, rfl, rfl, T.iEBadPadding, _, _, _, rfl, (fun _ r => r), T.kitBadPadding_ObjectMissing, _, rfl, if_f rfl ?_⟩
        refine ⟨_, rfl, ?_⟩
        dsimp only
        rw [show ("" : Str) ++ "padding" = "padding" by decide +kernel]
        exact q
      | miss =>
        refine ⟨true, T.exObjectMissing_BadArguments, (fun _ x hx => ?_), (fun z => nomatch z)⟩
        refine ⟨_, rfl, A.CObjectMissing, rfl, rfl, T.iEObjectMissing, _, _, _, rfl, (fun _ r => r), T.kitObjectMissing_BadLength, _, rfl, if_f rfl ?_⟩
        refine ⟨_, rfl, A.CObjectMissing, rfl, rfl, T.iEObjectMissing, _, _, _, rfl, (fun _ r => r), T.kitObjectMissing_BadText, _, rfl, if_f rfl ?_⟩
        refine ⟨_, rfl, A.CObjectMissing, rfl, rfl, T.iEObjectMissing, _, _, _, rfl, (fun _ r => r), T.kitObjectMissing_BadPadding, _, rfl, if_f rfl ?_⟩
        refine ⟨_, rfl, A.CObjectMissing, rfl, rfl, T.iEObjectMissing, _, _, _, rfl, (fun _ r => r), T.kitObjectMissing_ObjectMissing, _, rfl, if_t rfl ⟨_, rfl, _, _, rfl, rfl, by decide +kernel, ?_⟩⟩
        refine ⟨_, rfl, ?_⟩
        dsimp only
        rw [show ("" : Str) ++ "missing" = "missing" by decide +kernel]
        exact q
    · rw [he] at q
      exact q H' s
/-! ### _law_four, _law_changed -/
def sp__law_four (K : PySem.W.Frag) : Sp := fun vs H Q _ => ∃ (v : Int), vs = [.int v] ∧ ∀ p H', NewL H H' p ((octs v 4).map V.int) → Q (.ref p) H'
theorem sc__law_four : FnScope ["value"] ["value"] (defScope s__law_four) := ⟨rfl, rfl, rfl, by decide +kernel, rfl, by decide +kernel, by decide +kernel⟩
theorem ok__law_four (T : Txt K mg A) : FnOk P w K mg base CX0 1 A.f_law_four A.d_law_four ["value"] (sp__law_four K) := by
  refine T.F_law_four.ok sc__law_four (fun vs H Q E h => ?_) (fun cdv Ar outer s H vs Q E hr h => ?_)
  · obtain ⟨v, rfl, _⟩ := h
    rfl
  · obtain ⟨v, rfl, q⟩ := h
    refine ⟨_, (pss_one (ps_ret (pe_lst (pa_cons (pe_op op_mod (pe_callTy call_int1 (by rfl) T.int (by decide +kernel) (pa_cons (pv 0) pa_nil)) pe_int) (pa_cons (pe_op op_mod (pe_callTy call_int1 (by rfl) T.int (by decide +kernel) (pa_cons (pe_op op_fdiv (pv 0) pe_int) pa_nil)) pe_int) (pa_cons (pe_op op_mod (pe_callTy call_int1 (by rfl) T.int (by decide +kernel) (pa_cons (pe_op op_fdiv (pv 0) pe_int) pa_nil)) pe_int) (pa_cons (pe_op op_mod (pe_callTy call_int1 (by rfl) T.int (by decide +kernel) (pa_cons (pe_op op_fdiv (pv 0) pe_int) pa_nil)) pe_int) pa_nil))))))), ?_⟩
    refine ⟨_, rfl, Or.inl ⟨_, rfl, _, _, rfl, rfl, by show (0 : Int) < 256; decide, ?_⟩⟩
    refine ⟨_, rfl, _, _, rfl, rfl, ⟨by decide, by decide⟩, Or.inl ⟨_, rfl, _, _, rfl, rfl, by show (0 : Int) < 256; decide, ?_⟩⟩
    refine ⟨_, rfl, _, _, rfl, rfl, ⟨by decide, by decide⟩, Or.inl ⟨_, rfl, _, _, rfl, rfl, by show (0 : Int) < 256; decide, ?_⟩⟩
    refine ⟨_, rfl, _, _, rfl, rfl, ⟨by decide, by decide⟩, Or.inl ⟨_, rfl, _, _, rfl, rfl, by show (0 : Int) < 256; decide, ?_⟩⟩
    refine ⟨len_line (by show 4 ≤ 100000; decide), fun p hp => q p _ ⟨hp, same_upd hp, ?_⟩⟩
    rw [upd_same, octs4r, Int.ediv_one]; rfl
theorem cut_pre {xs : List Int} {i : Nat} (h : i ≤ xs.length) : cutV (xs.map V.int) none (some (i : Int)) = (xs.take i).map V.int := by
  unfold cutV
  rw [HT.sIx_nat, HT.sIx_none, List.length_map, Nat.min_eq_left h, List.drop_zero, Nat.sub_zero, List.map_take]
theorem cut_suf {xs : List Int} {i : Nat} (h : i ≤ xs.length) : cutV (xs.map V.int) (some (i : Int)) none = (xs.drop i).map V.int := by
  unfold cutV
  rw [HT.sIx_nat, HT.sIx_none, List.length_map, Nat.min_eq_left h, List.map_drop]
  exact List.take_of_length_le (by rw [List.length_drop, List.length_map]; omega)
def chg (xs : List Int) (i : Nat) (y : Int) : List Int := xs.take i ++ [y] ++ xs.drop (i + 1)
def sp__law_changed (K : PySem.W.Frag) : Sp := fun vs H Q _ => ∃ (a : Addr) (xs : List Int) (i : Nat) (y : Int), vs = [.ref a, .int (i : Int), .int y] ∧ SqL K H a (xs.map V.int) ∧ i < xs.length ∧ xs.length < 50000 ∧ ∀ p H', NewL H H' p ((chg xs i y).map V.int) → Q (.ref p) H'
theorem sc__law_changed : FnScope ["octets", "place", "octet"] ["octets", "place", "octet"] (defScope s__law_changed) := ⟨rfl, rfl, rfl, by decide +kernel, rfl, by decide +kernel, by decide +kernel⟩
theorem ok__law_changed (T : Txt K mg A) : FnOk P w K mg base CX0 1 A.f_law_changed A.d_law_changed ["octets", "place", "octet"] (sp__law_changed K) := by
  refine T.F_law_changed.ok sc__law_changed (fun vs H Q E h => ?_) (fun cdv Ar outer s H vs Q E hr h => ?_)
  · obtain ⟨a, xs, i, y, rfl, _⟩ := h
    rfl
  · obtain ⟨a, xs, i, y, rfl, hS, hi, hl, q⟩ := h
    refine ⟨_, (pss_one (ps_ret (pe_op op_cat (pe_op op_cat (pe_slice (r := rSlL K) sl_list (pv 0) po_none (po_some (pv 1))) (pe_lst (pa_cons (pv 2) pa_nil))) (pe_slice (r := rSlL K) sl_list (pv 0) (po_some (pe_op op_add (pv 1) pe_int)) po_none)))), ?_⟩
    refine ⟨_, rfl, _, rfl, _, rfl, a, _, rfl, hS, fun b1 h1 => ?_⟩
    rw [cut_pre (by omega)]
    have s1 := same_upd (o := .lst ((xs.take i).map V.int)) h1
    refine ⟨_, rfl, len_line (by show 1 ≤ 100000; decide), fun b2 h2 => ?_⟩
    have s2 := same_upd (o := .lst [.int y]) h2
    refine ⟨b1, b2, _, _, rfl, rfl, s2 _ _ upd_same, upd_same, ?_, fun b3 h3 => ?_⟩
    · rw [List.length_map, List.length_take]; show _ + 1 ≤ sizeLine; exact len_line (by omega)
    have s3 := same_upd (o := .lst ((xs.take i).map V.int ++ [.int y])) h3
    refine ⟨_, rfl, _, rfl, _, _, rfl, rfl, _, rfl, a, _, rfl, (s1.trans (s2.trans s3)).seq hS, fun b4 h4 => ?_⟩
    dsimp only
    rw [show (i : Int) + 1 = ((i + 1 : Nat) : Int) from rfl, cut_suf (by omega)]
    have s4 := same_upd (o := .lst ((xs.drop (i + 1)).map V.int)) h4
    refine ⟨b3, b4, _, _, rfl, rfl, s4 _ _ upd_same, upd_same, ?_, fun b5 h5 => ?_⟩
    · rw [List.length_append, List.length_map, List.length_map, List.length_take, List.length_drop]; show _ + 1 + _ ≤ sizeLine; exact len_line (by omega)
    refine q b5 _ ⟨(s1.trans (s2.trans (s3.trans s4))).free h5, s1.trans (s2.trans (s3.trans (s4.trans (same_upd h5)))), ?_⟩
    rw [upd_same]; unfold chg
    rw [List.map_append, List.map_append]; rfl
/-! ### octets that end within an argument: pure -/
theorem AtO.cut {ys l : List Int} {p c : Nat} (h : AtO ys p l) (hc : p + l.length ≤ c) : AtO (ys.take c) p l := by
  obtain ⟨pre, rest, rfl, rfl⟩ := h
  refine ⟨pre, rest.take (c - pre.length - l.length), ?_, rfl⟩
  rw [List.take_append, List.take_append, List.take_of_length_le (by omega), List.take_of_length_le (by omega)]
theorem rdNum_short {xs : List Int} {p : Nat} (h : xs.length < p + 4) : rdNum xs p = .error .len := if_pos h
theorem rdText_short {ys : List Int} {p c : Nat} {s : Str} (h : AtO ys p (textOcts s)) (hp : p % 4 = 0) (ok : isText s = true) (hc : c < p + (textOcts s).length) : rdText (ys.take c) p = .error .len := by
  have hyl := h.len
  have hcl : (ys.take c).length = c := by rw [List.length_take]; omega
  have tl : (textOcts s).length = 4 + s.length + 1 + padN (4 + s.length + 1) := by
    unfold textOcts
    rw [pad_len, List.length_append, List.length_append, octs_len, codesOf_len]; rfl
  unfold isText at ok
  rw [Bool.and_eq_true] at ok
  have hl := of_decide_eq_true ok.1
  have hall : (codesOf s).all codeOk = true := by
    unfold codesOf; rw [List.all_map]; exact ok.2
  unfold textOcts pad at h
  have a1 := h.left.left.left
  have a2 := h.left.left.right
  have a3 := h.left.right
  rw [octs_len] at a2
  rw [List.length_append, octs_len, codesOf_len] at a3
  unfold rdText
  by_cases c4 : c < p + 4
  · rw [rdNum_short (by omega)]
  rw [rdNum_at (a1.cut (by rw [octs_len]; omega)) (by omega) (by omega)]
  dsimp only
  rw [show ((s.length : Int) + 1).toNat = s.length + 1 by omega]
  rw [if_neg (fun z => z ⟨by omega, by omega⟩)]
  by_cases c5 : c < p + 4 + (s.length + 1)
  · rw [if_pos (by omega)]
  rw [if_neg (by omega)]
  have a2' := (a2.cut (c := c) (by rw [codesOf_len]; omega)).take
  have a3' := (a3.cut (c := c) (by show p + (4 + s.length) + 1 ≤ c; omega)).get (i := 0) (by decide)
  rw [codesOf_len] at a2'
  rw [show s.length + 1 - 1 = s.length by omega, a2', show p + 4 + (s.length + 1) - 1 = p + (4 + s.length) + 0 by omega, a3']
  rw [if_neg (fun z => z.elim (fun z => z rfl) (fun z => by rw [hall] at z; cases z))]
  have hpad : padN (p + 4 + (s.length + 1)) = padN (4 + s.length + 1) := padN_mod (by omega)
  have : rdPad (ys.take c) (p + 4 + (s.length + 1)) = .error .len := if_pos (by omega)
  rw [this]
theorem rdOcts_short {ys : List Int} {p c : Nat} {zs : List Int} (h : AtO ys p (pad (octs zs.length 4 ++ zs))) (hp : p % 4 = 0) (ok : octsOk zs = true) (hc : c < p + (pad (octs zs.length 4 ++ zs)).length) : rdOcts (ys.take c) p = .error .len := by
  have hyl := h.len
  have hcl : (ys.take c).length = c := by rw [List.length_take]; omega
  have tl : (pad (octs zs.length 4 ++ zs)).length = 4 + zs.length + padN (4 + zs.length) := by
    rw [pad_len, List.length_append, octs_len]
  unfold octsOk at ok
  rw [Bool.and_eq_true] at ok
  have hl := of_decide_eq_true ok.1
  unfold pad at h
  have a1 := h.left.left
  unfold rdOcts
  by_cases c4 : c < p + 4
  · rw [rdNum_short (by omega)]
  rw [rdNum_at (a1.cut (by rw [octs_len]; omega)) (by omega) (by omega)]
  dsimp only
  rw [if_neg (by omega), show ((zs.length : Int)).toNat = zs.length by omega]
  have hpad : padN (p + 4 + zs.length) = padN (4 + zs.length) := padN_mod (by omega)
  have : rdPad (ys.take c) (p + 4 + zs.length) = .error .len := if_pos (by omega)
  rw [this]
theorem rdKind_short {ys : List Int} {p c : Nat} {k : Str} {x : AV} {os : List Int} (hs : ArgSpec k x true os) (h : AtO ys p os) (hp : p % 4 = 0) (hc : c < p + os.length) : rdKind k (ys.take c) p = .error .len := by
  have hyl := h.len
  have hcl : (ys.take c).length = c := by rw [List.length_take]; omega
  generalize hb : true = ok at hs
  cases hs with
  | num hn =>
    rw [octs_len] at hc
    have hN : rdNum (ys.take c) p = .error .len := rdNum_short (by omega)
    have hN2 : rdNamed (ys.take c) p = .error .len := by unfold rdNamed; rw [hN]
    unfold rdKind
    cases hn with
    | uint => rw [if_neg (by decide +kernel), if_neg (by decide +kernel), if_neg (by decide +kernel), if_neg (by decide +kernel), hN]
    | maybe => rw [if_neg (by decide +kernel), if_neg (by decide +kernel), if_neg (by decide +kernel), if_neg (by decide +kernel), hN]
    | int => rw [if_neg (by decide +kernel), if_neg (by decide +kernel), if_neg (by decide +kernel), if_neg (by decide +kernel), hN]
    | object => rw [if_neg (by decide +kernel), if_neg (by decide +kernel), if_neg (by decide +kernel), if_pos (Or.inl rfl), hN2]
    | new => rw [if_neg (by decide +kernel), if_neg (by decide +kernel), if_neg (by decide +kernel), if_pos (Or.inr rfl), hN2]
  | txt =>
    unfold rdKind
    rw [if_pos rfl, rdText_short h hp hb.symm hc]
  | oct =>
    unfold rdKind
    rw [if_neg (by decide +kernel), if_pos rfl, rdOcts_short h hp hb.symm hc]
  | bnd =>
    rename_i s n
    have hb' := hb.symm
    rw [Bool.and_eq_true] at hb'
    rw [List.length_append, octs_len] at hc
    unfold rdKind rdBound
    rw [if_neg (by decide +kernel), if_neg (by decide +kernel), if_pos rfl]
    by_cases c2 : c < p + (textOcts s).length
    · rw [rdText_short h.left hp hb'.1 c2]
    · rw [rdText_at (h.left.cut (by omega)) hp hb'.1]
      dsimp only
      have hN2 : rdNamed (ys.take c) (p + (textOcts s).length) = .error .len := by unfold rdNamed; rw [rdNum_short (by omega)]
      rw [hN2]
theorem rdAll_short {ys : List Int} {c : Nat} : ∀ (args : List Arg) (p : Nat), (∀ g ∈ args, ArgSpec g.kind g.val true g.os) → AtO ys p (bodyOf args) → p % 4 = 0 → c < p + (bodyOf args).length → p ≤ c → rdAll (ys.take c) (args.map Arg.kind) p = .error .len
  | [], p, _, _, _, hc, hp => by
    have : (bodyOf []).length = 0 := rfl
    omega
  | g :: r, p, hs, h, hp, hc, hpc => by
    have h' : AtO ys p (g.os ++ bodyOf r) := h
    have hl : (bodyOf (g :: r)).length = g.os.length + (bodyOf r).length := by show (g.os ++ bodyOf r).length = _; rw [List.length_append]
    have hg := hs g List.mem_cons_self
    have hm := spec_mod hg
    show rdAll (ys.take c) (g.kind :: r.map Arg.kind) p = _
    unfold rdAll
    by_cases c2 : c < p + g.os.length
    · rw [rdKind_short hg h'.left hp c2]
    · rw [rdKind_at hg (h'.left.cut (by omega)) hp]
      dsimp only
      rw [rdAll_short r (p + g.os.length) (fun x hx => hs x (List.mem_cons_of_mem _ hx)) h'.right (by omega) (by omega) (by omega)]
theorem rdAll_pre {xs : List Int} (ks : List Str) : ∀ (args : List Arg) (p : Nat), (∀ g ∈ args, ArgSpec g.kind g.val true g.os) → AtO xs p (bodyOf args) → p % 4 = 0 →
    rdAll xs (args.map Arg.kind ++ ks) p = (match rdAll xs ks (p + (bodyOf args).length) with | .error e => .error e | .ok (r, c) => .ok (args.map Arg.val ++ r, c))
  | [], p, _, _, _ => by
    show rdAll xs ks p = (match rdAll xs ks p with | .error e => .error e | .ok (r, c) => .ok (r, c))
    cases rdAll xs ks p <;> rfl
  | g :: r, p, hs, h, hp => by
    have h' : AtO xs p (g.os ++ bodyOf r) := h
    have hg := hs g List.mem_cons_self
    have hm := spec_mod hg
    have ih := rdAll_pre ks r (p + g.os.length) (fun x hx => hs x (List.mem_cons_of_mem _ hx)) h'.right (by omega)
    show rdAll xs (g.kind :: (r.map Arg.kind ++ ks)) p = (match rdAll xs ks (p + (g.os ++ bodyOf r).length) with | .error e => .error e | .ok (q, c) => .ok (g.val :: (r.map Arg.val ++ q), c))
    conv => lhs; unfold rdAll
    rw [rdKind_at hg h'.left hp]
    dsimp only
    rw [ih, List.length_append, Nat.add_assoc]
    cases rdAll xs ks (p + (g.os.length + (bodyOf r).length)) <;> rfl
/-! ### the eight cases: pure -/
theorem rdText_bad {xs : List Int} {p : Nat} {cs rest : List Int} {z : Int} (h : AtO xs p (octs ((cs.length : Int) + 1) 4 ++ cs ++ [z] ++ rest)) (hl : cs.length ≤ 1000) (hz : z ≠ 0 ∨ cs.all codeOk = false) : rdText xs p = .error .text := by
  have hxl := h.len
  rw [List.length_append, List.length_append, List.length_append, octs_len] at hxl
  have lin : ([z] : List Int).length = 1 := rfl
  rw [lin] at hxl
  have a1 := h.left.left.left
  have a2 := h.left.left.right
  have a3 := h.left.right
  rw [octs_len] at a2
  rw [List.length_append, octs_len] at a3
  have ht := a2.take
  have hz3 : xs.getD (p + (4 + cs.length) + 0) 0 = z := a3.get (i := 0) (by show 0 < 1; decide)
  unfold rdText
  rw [rdNum_at a1 (by omega) (by omega)]
  dsimp only
  rw [show ((cs.length : Int) + 1).toNat = cs.length + 1 by omega]
  rw [if_neg (fun z => z ⟨by omega, by omega⟩), if_neg (by omega)]
  rw [show cs.length + 1 - 1 = cs.length by omega, ht, show p + 4 + (cs.length + 1) - 1 = p + (4 + cs.length) + 0 by omega, hz3]
  exact if_pos hz
theorem rdPad_bad {xs l : List Int} {e : Nat} (h : AtO xs e l) (hl : l.length = padN e) (ha : (l.any fun x => (x != 0)) = true) : rdPad xs e = .error .pad := by
  have hxl := h.len
  have ht := h.take
  rw [hl] at ht
  unfold rdPad
  rw [if_neg (by omega), ht, if_pos ha]
theorem rdText_pad {xs : List Int} {p : Nat} {cs l : List Int} (h : AtO xs p (octs ((cs.length : Int) + 1) 4 ++ cs ++ [0] ++ l)) (hp : p % 4 = 0) (hl : cs.length ≤ 1000) (hall : cs.all codeOk = true) (hll : l.length = padN (4 + cs.length + 1)) (ha : (l.any fun x => (x != 0)) = true) : rdText xs p = .error .pad := by
  have hxl := h.len
  rw [List.length_append, List.length_append, List.length_append, octs_len] at hxl
  have lin : ([(0 : Int)] : List Int).length = 1 := rfl
  rw [lin] at hxl
  have a1 := h.left.left.left
  have a2 := h.left.left.right
  have a3 := h.left.right
  have a4 := h.right
  rw [octs_len] at a2
  rw [List.length_append, octs_len] at a3
  rw [List.length_append, List.length_append, octs_len, lin] at a4
  have ht := a2.take
  have hz3 : xs.getD (p + (4 + cs.length) + 0) 0 = 0 := a3.get (i := 0) (by decide)
  unfold rdText
  rw [rdNum_at a1 (by omega) (by omega)]
  dsimp only
  rw [show ((cs.length : Int) + 1).toNat = cs.length + 1 by omega]
  rw [if_neg (fun z => z ⟨by omega, by omega⟩), if_neg (by omega)]
  rw [show cs.length + 1 - 1 = cs.length by omega, ht, show p + 4 + (cs.length + 1) - 1 = p + (4 + cs.length) + 0 by omega, hz3]
  rw [if_neg (fun z => z.elim (fun z => z rfl) (fun z => by rw [hall] at z; cases z))]
  rw [show p + 4 + (cs.length + 1) = p + (4 + cs.length + 1) by omega, rdPad_bad a4 (by rw [hll]; exact padN_mod (by omega)) ha]
def endWord (xs : List Int) (k : Str) (p : Nat) : Str := match rdKind k xs p with
  | .error e => errWord e
  | .ok (_, b) => if b < xs.length then "length" else "none"
structure CaseOk (k : Str) (bad : List Int) (due : Str) : Prop where
  ok : okOcts bad
  len : bad.length ≤ 20000
  word : ∀ xs p, p % 4 = 0 → AtO xs p bad → xs.length = p + bad.length → endWord xs k p = due
theorem endWord_text {xs : List Int} {p : Nat} {e : RErr} (h : rdText xs p = .error e) : endWord xs "text" p = errWord e := by
  unfold endWord rdKind
  rw [if_pos rfl, h]
theorem endWord_octs {xs : List Int} {p : Nat} {e : RErr} (h : rdOcts xs p = .error e) : endWord xs "octets" p = errWord e := by
  unfold endWord rdKind
  rw [if_neg (by decide +kernel), if_pos rfl, h]
theorem chg_mid (a b : List Int) (y z : Int) : chg (a ++ [y] ++ b) a.length z = a ++ [z] ++ b := by
  have h1 : (a ++ [y] ++ b).take a.length = a := by rw [List.append_assoc, List.take_left]
  have h2 : (a ++ [y] ++ b).drop (a.length + 1) = b := by
    have e : a.length + 1 = (a ++ [y]).length := by rw [List.length_append]; rfl
    rw [e, List.drop_left]
  unfold chg
  rw [h1, h2]
theorem textOcts_eq (s : Str) : textOcts s = octs (((codesOf s).length : Int) + 1) 4 ++ codesOf s ++ [0] ++ List.replicate (padN (4 + (codesOf s).length + 1)) 0 := by
  unfold textOcts pad
  rw [List.length_append, List.length_append, octs_len, codesOf_len]; rfl
theorem small_ok {xs : List Int} (h : xs.all (fun x => decide (0 ≤ x ∧ x ≤ 255)) = true) : okOcts xs := fun x hx => of_decide_eq_true (List.all_eq_true.mp h x hx)
theorem rep_ok {n : Nat} {x : Int} (h : 0 ≤ x ∧ x ≤ 255) : okOcts (List.replicate n x) := fun y hy => by rw [(List.mem_replicate.mp hy).2]; exact h
theorem codes_ok {s : Str} (ok : isText s = true) : okOcts (codesOf s) ∧ (codesOf s).all codeOk = true := by
  unfold isText at ok
  rw [Bool.and_eq_true] at ok
  refine ⟨fun x hx => ?_, by unfold codesOf; rw [List.all_map]; exact ok.2⟩
  obtain ⟨c, hc, rfl⟩ := List.mem_map.mp hx
  have := of_decide_eq_true (List.all_eq_true.mp ok.2 c hc)
  omega
theorem padN_le (n : Nat) : padN n ≤ 3 := by have := padN_lt n; omega
theorem case0_ok {s : Str} {z : Int} (ok : isText s = true) (hl : s.length ≤ 8) (h1 : 1 ≤ z ∧ z ≤ 255) : CaseOk "text" (chg (textOcts s) (4 + s.length) z) "text" := by
  obtain ⟨o1, o2⟩ := codes_ok ok
  have hcl := codesOf_len s
  have e : chg (textOcts s) (4 + s.length) z = octs (((codesOf s).length : Int) + 1) 4 ++ codesOf s ++ [z] ++ List.replicate (padN (4 + (codesOf s).length + 1)) 0 := by
    rw [textOcts_eq, show 4 + s.length = (octs (((codesOf s).length : Int) + 1) 4 ++ codesOf s).length by rw [List.length_append, octs_len, hcl]]
    exact chg_mid _ _ _ _
  rw [e]
  refine ⟨((octs_ok.app o1).app (fun x hx => by rw [List.mem_singleton.mp hx]; omega)).app (rep_ok (by decide)), ?_, fun xs p hp h _ => endWord_text (rdText_bad h (by omega) (Or.inl (by omega)))⟩
  rw [List.length_append, List.length_append, List.length_append, octs_len, List.length_replicate, hcl]
  have := padN_le (4 + s.length + 1)
  show 4 + s.length + 1 + _ ≤ 20000
  omega
theorem case1_ok {s : Str} {b : Int} {m : Nat} (ok : isText s = true) (hl : s.length ≤ 8) (h1 : 0 ≤ b ∧ b ≤ 255) (hb : codeOk b = false) (hm : m ≤ 4) (hm1 : 1 ≤ m) : CaseOk "text" (octs ((s.length : Int) + 2) 4 ++ [b] ++ codesOf s ++ List.replicate m 0) "text" := by
  obtain ⟨o1, o2⟩ := codes_ok ok
  have hcl := codesOf_len s
  obtain ⟨k, rfl⟩ : ∃ k, m = k + 1 := ⟨m - 1, by omega⟩
  have e : octs ((s.length : Int) + 2) 4 ++ [b] ++ codesOf s ++ List.replicate (k + 1) 0 = octs (((b :: codesOf s).length : Int) + 1) 4 ++ (b :: codesOf s) ++ [0] ++ List.replicate k 0 := by
    rw [List.replicate_succ, List.length_cons, hcl, show (((s.length + 1 : Nat) : Int) + 1) = (s.length : Int) + 2 by omega]
    simp
  rw [e]
  refine ⟨((octs_ok.app (fun x hx => ?_)).app (fun x hx => by rw [List.mem_singleton.mp hx]; decide)).app (rep_ok (by decide)), ?_, fun xs p hp h _ => endWord_text (rdText_bad h (by rw [List.length_cons]; omega) (Or.inr (by rw [List.all_cons, hb]; rfl)))⟩
  · rcases List.mem_cons.mp hx with rfl | hx
    · exact h1
    · exact o1 x hx
  · rw [List.length_append, List.length_append, List.length_append, octs_len, List.length_replicate, List.length_cons, hcl]
    show 4 + (s.length + 1) + 1 + _ ≤ 20000
    omega
theorem case2_none {s : Str} (ok : isText s = true) (hl : s.length ≤ 8) : CaseOk "text" (textOcts s) "none" := by
  refine ⟨textOcts_ok ok, by have := textOcts_len s; omega, fun xs p hp h hx => ?_⟩
  unfold endWord rdKind
  rw [if_pos rfl, rdText_at h hp ok]
  exact if_neg (by omega)
theorem case2_pad {s : Str} {z : Int} (ok : isText s = true) (hl : s.length ≤ 8) (h1 : 1 ≤ z ∧ z ≤ 255) (h3 : s.length % 4 ≠ 3) : CaseOk "text" (chg (textOcts s) ((textOcts s).length - 1) z) "padding" := by
  obtain ⟨o1, o2⟩ := codes_ok ok
  have hcl := codesOf_len s
  obtain ⟨k, hk⟩ : ∃ k, padN (4 + (codesOf s).length + 1) = k + 1 := ⟨padN (4 + (codesOf s).length + 1) - 1, by rw [hcl]; unfold padN; omega⟩
  have e : chg (textOcts s) ((textOcts s).length - 1) z = octs (((codesOf s).length : Int) + 1) 4 ++ codesOf s ++ [0] ++ (List.replicate k 0 ++ [z]) := by
    have e1 : textOcts s = (octs (((codesOf s).length : Int) + 1) 4 ++ codesOf s ++ [0] ++ List.replicate k 0) ++ [0] ++ [] := by
      rw [textOcts_eq, hk, List.replicate_succ', List.append_nil, List.append_assoc _ (List.replicate k 0)]
    generalize hB : octs (((codesOf s).length : Int) + 1) 4 ++ codesOf s ++ [0] = B at e1 ⊢
    have e2 : (textOcts s).length - 1 = (B ++ List.replicate k 0).length := by
      rw [e1, List.append_nil, List.length_append (as := B ++ List.replicate k 0)]; rfl
    rw [e2, e1, chg_mid, List.append_nil, List.append_assoc]
  rw [e]
  have hk3 := padN_le (4 + (codesOf s).length + 1)
  refine ⟨((octs_ok.app o1).app (fun x hx => by rw [List.mem_singleton.mp hx]; decide)).app ((rep_ok (by decide)).app (fun x hx => by rw [List.mem_singleton.mp hx]; omega)), ?_, fun xs p hp h _ => endWord_text (rdText_pad h hp (by omega) o2 ?_ ?_)⟩
  · rw [List.length_append, List.length_append, List.length_append, List.length_append, octs_len, List.length_replicate, hcl]
    show 4 + s.length + 1 + (_ + 1) ≤ 20000
    omega
  · rw [List.length_append, List.length_replicate, hk]; rfl
  · rw [List.any_append, Bool.or_eq_true]; right
    rw [List.any_cons, Bool.or_eq_true]; left
    exact bne_iff_ne.mpr (by omega)
theorem case3_ok {l : Int} (h : 1 ≤ l ∧ l ≤ 3) : CaseOk "octets" (octs l 4 ++ [7, 7, 7, 9]) "padding" := by
  refine ⟨octs_ok.app (small_ok (by decide)), by rw [List.length_append, octs_len]; decide, fun xs p hp h2 _ => endWord_octs (e := .pad) ?_⟩
  have a1 := h2.left
  have a2 := h2.right
  rw [octs_len] at a2
  unfold rdOcts
  rw [rdNum_at a1 (by omega) (by omega)]
  dsimp only
  rw [if_neg (by omega)]
  rcases (by omega : l = 1 ∨ l = 2 ∨ l = 3) with rfl | rfl | rfl
  · have a3 : AtO xs (p + 4 + (1 : Int).toNat) [7, 7, 9] := AtO.right (l1 := [7]) (l2 := [7, 7, 9]) a2
    rw [rdPad_bad a3 (by show 3 = padN _; unfold padN; omega) (by decide)]
  · have a3 : AtO xs (p + 4 + (2 : Int).toNat) [7, 9] := AtO.right (l1 := [7, 7]) (l2 := [7, 9]) a2
    rw [rdPad_bad a3 (by show 2 = padN _; unfold padN; omega) (by decide)]
  · have a3 : AtO xs (p + 4 + (3 : Int).toNat) [9] := AtO.right (l1 := [7, 7, 7]) (l2 := [9]) a2
    rw [rdPad_bad a3 (by show 1 = padN _; unfold padN; omega) (by decide)]
theorem octs0 : octs 0 4 = [0, 0, 0, 0] := by decide
theorem named0 {xs : List Int} {p : Nat} (h : AtO xs p [0, 0, 0, 0]) : rdNamed xs p = .error .miss := by
  rw [← octs0] at h
  unfold rdNamed
  rw [rdNum_at h (by decide) (by decide)]
  rfl
theorem case4_ok {k : Str} (hk : k = "object" ∨ k = "new") : CaseOk k [0, 0, 0, 0] "missing" := by
  refine ⟨small_ok (by decide), by decide, fun xs p hp h _ => ?_⟩
  unfold endWord rdKind
  rcases hk with rfl | rfl
  · rw [if_neg (by decide +kernel), if_neg (by decide +kernel), if_neg (by decide +kernel), if_pos (Or.inl rfl), named0 h]; rfl
  · rw [if_neg (by decide +kernel), if_neg (by decide +kernel), if_neg (by decide +kernel), if_pos (Or.inr rfl), named0 h]; rfl
theorem case5_ok {s : Str} (ok : isText s = true) (hl : s.length ≤ 8) : CaseOk "bound" (textOcts s ++ [0, 0, 0, 0]) "missing" := by
  refine ⟨(textOcts_ok ok).app (small_ok (by decide)), by have := textOcts_len s; rw [List.length_append]; show _ + 4 ≤ 20000; omega, fun xs p hp h _ => ?_⟩
  unfold endWord rdKind rdBound
  rw [if_neg (by decide +kernel), if_neg (by decide +kernel), if_pos rfl, rdText_at h.left hp ok]
  dsimp only
  rw [named0 h.right]; rfl
theorem case6_ok {v : Int} (h0 : 0 ≤ v ∧ v < 4294967296) (h : ¬ (1 ≤ v ∧ v ≤ 1001)) : CaseOk "text" (octs v 4 ++ List.replicate 1004 65) "length" := by
  refine ⟨octs_ok.app (rep_ok (by decide)), by rw [List.length_append, octs_len, List.length_replicate]; decide, fun xs p hp h2 _ => endWord_text (e := .len) ?_⟩
  unfold rdText
  rw [rdNum_at h2.left h0.1 h0.2]
  exact if_pos h
theorem case7_ok : CaseOk "octets" (octs 16385 4 ++ List.replicate 16388 0) "length" := by
  refine ⟨octs_ok.app (rep_ok (by decide)), by rw [List.length_append, octs_len, List.length_replicate]; decide, fun xs p hp h2 _ => endWord_octs (e := .len) ?_⟩
  unfold rdOcts
  rw [rdNum_at h2.left (by decide) (by decide)]
  exact if_pos (by decide)
/-- the words for the octets of arguments with one more behind -/
theorem word_case {args : List Arg} {k : Str} {bad : List Int} {due : Str} (hs : ∀ g ∈ args, ArgSpec g.kind g.val true g.os) (c : CaseOk k bad due) : toldWord (bodyOf args ++ bad) (args.map Arg.kind ++ [k]) = due := by
  have hm : (bodyOf args).length % 4 = 0 := by
    induction args with
    | nil => rfl
    | cons g r ih =>
      show (g.os ++ bodyOf r).length % 4 = 0
      rw [List.length_append]
      have := spec_mod (hs g List.mem_cons_self)
      have := ih fun x hx => hs x (List.mem_cons_of_mem _ hx)
      omega
  have w := c.word (bodyOf args ++ bad) (bodyOf args).length hm ⟨bodyOf args, [], by rw [List.append_nil], rfl⟩ (by rw [List.length_append])
  unfold toldWord rdArgs
  rw [rdAll_pre (xs := bodyOf args ++ bad) [k] args 0 hs ⟨[], bad, rfl, rfl⟩ rfl, Nat.zero_add]
  unfold rdAll
  unfold endWord at w
  cases e : rdKind k (bodyOf args ++ bad) (bodyOf args).length with
  | error er => rw [e] at w; exact w
  | ok r =>
    obtain ⟨x, b⟩ := r
    rw [e] at w
    dsimp only at w ⊢
    unfold rdAll
    dsimp only
    rw [← w]
    by_cases c2 : b < (bodyOf args ++ bad).length
    · rw [if_pos c2, if_pos c2]; rfl
    · rw [if_neg c2, if_neg c2]
theorem word_more {args : List Arg} {x : Int} (hs : ∀ g ∈ args, ArgSpec g.kind g.val true g.os) : toldWord (bodyOf args ++ [x]) (args.map Arg.kind) = "length" := by
  unfold toldWord rdArgs
  rw [rdAll_at (xs := bodyOf args ++ [x]) args 0 hs ⟨[], [x], rfl, rfl⟩ rfl]
  dsimp only
  rw [if_pos (by rw [List.length_append]; show _ < _ + 1; omega)]; rfl
theorem word_short {args : List Arg} {c : Nat} (hs : ∀ g ∈ args, ArgSpec g.kind g.val true g.os) (hc : c < (bodyOf args).length) : toldWord ((bodyOf args).take c) (args.map Arg.kind) = "length" := by
  unfold toldWord rdArgs
  rw [rdAll_short (ys := bodyOf args) args 0 hs ⟨[], [], by rw [List.append_nil]; rfl, rfl⟩ rfl (by omega) (Nat.zero_le _)]; rfl
/-! ### _law_case -/
def sp__law_case (K : PySem.W.Frag) : Sp := fun vs H Q _ => ∃ (r : Int) (bv : V), vs = [.int r, bv] ∧ ∀ (k : Str) (bad : List Int) (due : Str) (t p : Addr) H', Same H H' → SqT K H' t [.str k, .ref p, .str due] → H' p = some (.lst (bad.map V.int)) → CaseOk k bad due → Q (.ref t) H'
theorem sc__law_case : FnScope ["row", "before", "case", "text", "octets", "size", "bad"] ["row", "before"] (defScope s__law_case) := ⟨rfl, rfl, rfl, by decide +kernel, rfl, by decide +kernel, by decide +kernel⟩
theorem textOcts_codes (s : Str) : ((textOcts s).drop 4).take s.length = codesOf s ∧ ((textOcts s).drop 4).take (s.length + 1) = codesOf s ++ [0] := by
  have e : (textOcts s).drop 4 = codesOf s ++ ([0] ++ List.replicate (padN (4 + (codesOf s).length + 1)) 0) := by
    rw [textOcts_eq, List.append_assoc, List.append_assoc]
    exact List.drop_left (l₁ := octs (((codesOf s).length : Int) + 1) 4)
  rw [e]
  have hl := codesOf_len s
  refine ⟨by rw [← hl, List.take_left], ?_⟩
  rw [← List.append_assoc, ← hl, show (codesOf s).length + 1 = (codesOf s ++ [0]).length by rw [List.length_append]; rfl, List.take_left]
theorem cut_case {xs : List Int} {n : Nat} (h : 4 + n ≤ xs.length) : cutV (xs.map V.int) (some 4) (some ((4 : Int) + (n : Int))) = ((xs.drop 4).take n).map V.int := by
  have := cut_ints (xs := xs) (i := 4) (j := 4 + n) (by omega) h
  rw [show 4 + n - 4 = n by omega] at this
  exact this
theorem case_text (r : Int) (n : Nat) (h : n ≤ 8) : isText (lawTextS r n) = true ∧ (lawTextS r n).length = n := by
  have hl := lawTextS_len r n
  refine ⟨?_, hl⟩
  have h1 := lawTextS_ok r n
  unfold okCodes at h1
  unfold isText
  rw [Bool.and_eq_true, hl]
  exact ⟨decide_eq_true (by omega), List.all_eq_true.mpr h1⟩
theorem ok__law_case (T : Txt K mg A) : FnOk P w K mg base CX0 7 A.f_law_case A.d_law_case ["row", "before"] (sp__law_case K) := by
  refine T.F_law_case.ok sc__law_case (fun vs H Q E h => ?_) (fun cdv Ar outer s H vs Q E hr h => ?_)
  · obtain ⟨r, bv, rfl, _⟩ := h
    rfl
  · obtain ⟨r, bv, rfl, q⟩ := h
    refine ⟨_, (pss_cons (ps_set (i := 2) sc__law_case.nd rfl (Or.inl rfl) (pe_op op_mod (pe_callTy call_int1 (by rfl) T.int (by decide +kernel) (pa_cons (pv 0) pa_nil)) pe_int))
      (pss_cons (ps_set (i := 3) sc__law_case.nd rfl (Or.inl rfl) (pe_call (ok__law_text T) (hr.mono (by decide)) rfl T.g_law_text T.k_law_text T.b_law_text .nil pass0 (pa_cons (pe_op op_fdiv (pv 0) pe_int) (pa_cons (pe_op op_mod (pe_callTy call_int1 (by rfl) T.int (by decide +kernel) (pa_cons (pe_op op_fdiv (pv 0) pe_int) pa_nil)) pe_int) pa_nil))))
      (pss_cons (ps_set (i := 4) sc__law_case.nd rfl (Or.inl rfl) (pe_call (ok_field_octets T) (hr.mono (by decide)) rfl T.gfield_octets T.kfield_octets T.bfield_octets .nil passL (pa_cons pe_str (pa_cons (pv 3) pa_nil))))
      (pss_cons (ps_if (pt_cmpR op_eq (pv 2) pe_int (nomark _))
      (pss_one (ps_ret (pe_tup (pa_cons pe_str (pa_cons (pe_call (ok__law_changed T) (hr.mono (by decide)) rfl T.g_law_changed T.k_law_changed T.b_law_changed .nil pass0 (pa_cons (pv 4) (pa_cons (pe_op op_add pe_int (pe_callB call_len_str (by rfl) T.len PySem.boot_len (pa_cons (pv 3) pa_nil))) (pa_cons (pe_op op_add pe_int (pe_op op_mod (pe_callTy call_int1 (by rfl) T.int (by decide +kernel) (pa_cons (pe_op op_fdiv (pv 0) pe_int) pa_nil)) pe_int)) pa_nil)))) (pa_cons pe_str pa_nil))))))
      pss_nil)
      (pss_cons (ps_if (pt_cmpR op_eq (pv 2) pe_int (nomark _))
      (pss_cons (ps_set (i := 5) sc__law_case.nd rfl (Or.inl rfl) (pe_callB call_len_str (by rfl) T.len PySem.boot_len (pa_cons (pv 3) pa_nil)))
      (pss_cons (ps_set (i := 6) sc__law_case.nd rfl (Or.inl rfl) (pe_ix (r := rIxT K) ix_tup (pe_tup (pa_cons pe_int (pa_cons pe_int (pa_cons pe_int (pa_cons pe_int (pa_cons pe_int (pa_cons pe_int pa_nil))))))) (pe_op op_mod (pe_callTy call_int1 (by rfl) T.int (by decide +kernel) (pa_cons (pe_op op_fdiv (pv 0) pe_int) pa_nil)) pe_int) (fun _ _ => rfl)))
      (pss_one (ps_ret (pe_tup (pa_cons pe_str (pa_cons (pe_op op_cat (pe_op op_cat (pe_op op_cat (pe_call (ok__law_four T) (hr.mono (by decide)) rfl T.g_law_four T.k_law_four T.b_law_four .nil pass0 (pa_cons (pe_op op_add (pv 5) pe_int) pa_nil)) (pe_lst (pa_cons (pv 6) pa_nil))) (pe_slice (r := rSlL K) sl_list (pv 4) (po_some pe_int) (po_some (pe_op op_add pe_int (pv 5))))) (pe_op op_rep (pe_lst (pa_cons pe_int pa_nil)) (pe_op op_sub pe_int (pe_op op_mod (pe_op op_add (pv 5) pe_int) pe_int)))) (pa_cons pe_str pa_nil))))))))
      pss_nil)
      (pss_cons (ps_if (pt_cmpR op_eq (pv 2) pe_int (nomark _))
      (pss_cons (ps_set (i := 4) sc__law_case.nd rfl (Or.inl rfl) (pe_op op_cat (pe_op op_cat (pe_call (ok__law_four T) (hr.mono (by decide)) rfl T.g_law_four T.k_law_four T.b_law_four .nil pass0 (pa_cons (pe_op op_add (pe_callB call_len_str (by rfl) T.len PySem.boot_len (pa_cons (pv 3) pa_nil)) pe_int) pa_nil)) (pe_slice (r := rSlL K) sl_list (pv 4) (po_some pe_int) (po_some (pe_op op_add pe_int (pe_callB call_len_str (by rfl) T.len PySem.boot_len (pa_cons (pv 3) pa_nil)))))) (pe_op op_rep (pe_lst (pa_cons pe_int pa_nil)) (pe_op op_mod (pe_op op_sub pe_int (pe_callB call_len_str (by rfl) T.len PySem.boot_len (pa_cons (pv 3) pa_nil))) pe_int))))
      (pss_cons (ps_if (pt_cmpR op_eq (pe_op op_mod (pe_callTy call_int1 (by rfl) T.int (by decide +kernel) (pa_cons (pe_callB call_len_str (by rfl) T.len PySem.boot_len (pa_cons (pv 3) pa_nil)) pa_nil)) pe_int) pe_int (nomark _))
      (pss_one (ps_ret (pe_tup (pa_cons pe_str (pa_cons (pv 4) (pa_cons pe_str pa_nil))))))
      pss_nil)
      (pss_one (ps_ret (pe_tup (pa_cons pe_str (pa_cons (pe_call (ok__law_changed T) (hr.mono (by decide)) rfl T.g_law_changed T.k_law_changed T.b_law_changed .nil pass0 (pa_cons (pv 4) (pa_cons (pe_op op_sub (pe_callB call_len_seq (by rfl) T.len PySem.boot_len (pa_cons (pv 4) pa_nil)) pe_int) (pa_cons (pe_op op_add pe_int (pe_op op_mod (pe_callTy call_int1 (by rfl) T.int (by decide +kernel) (pa_cons (pe_op op_fdiv (pv 0) pe_int) pa_nil)) pe_int)) pa_nil)))) (pa_cons pe_str pa_nil))))))))
      pss_nil)
      (pss_cons (ps_if (pt_cmpR op_eq (pv 2) pe_int (nomark _))
      (pss_one (ps_ret (pe_tup (pa_cons pe_str (pa_cons (pe_op op_cat (pe_call (ok__law_four T) (hr.mono (by decide)) rfl T.g_law_four T.k_law_four T.b_law_four .nil pass0 (pa_cons (pe_op op_add pe_int (pe_op op_mod (pe_callTy call_int1 (by rfl) T.int (by decide +kernel) (pa_cons (pe_op op_fdiv (pv 0) pe_int) pa_nil)) pe_int)) pa_nil)) (pe_lst (pa_cons pe_int (pa_cons pe_int (pa_cons pe_int (pa_cons pe_int pa_nil)))))) (pa_cons pe_str pa_nil))))))
      pss_nil)
      (pss_cons (ps_if (pt_cmpR op_eq (pv 2) pe_int (nomark _))
      (pss_one (ps_ret (pe_tup (pa_cons (pe_ix (r := rIxT K) ix_tup (pe_tup (pa_cons pe_str (pa_cons pe_str pa_nil))) (pe_op op_mod (pe_callTy call_int1 (by rfl) T.int (by decide +kernel) (pa_cons (pe_op op_fdiv (pv 0) pe_int) pa_nil)) pe_int) (fun _ _ => rfl)) (pa_cons (pe_lst (pa_cons pe_int (pa_cons pe_int (pa_cons pe_int (pa_cons pe_int pa_nil))))) (pa_cons pe_str pa_nil))))))
      pss_nil)
      (pss_cons (ps_if (pt_cmpR op_eq (pv 2) pe_int (nomark _))
      (pss_one (ps_ret (pe_tup (pa_cons pe_str (pa_cons (pe_op op_cat (pv 4) (pe_lst (pa_cons pe_int (pa_cons pe_int (pa_cons pe_int (pa_cons pe_int pa_nil)))))) (pa_cons pe_str pa_nil))))))
      pss_nil)
      (pss_cons (ps_if (pt_cmpR op_eq (pv 2) pe_int (nomark _))
      (pss_one (ps_ret (pe_tup (pa_cons pe_str (pa_cons (pe_op op_cat (pe_call (ok__law_four T) (hr.mono (by decide)) rfl T.g_law_four T.k_law_four T.b_law_four .nil pass0 (pa_cons (pe_ix (r := rIxT K) ix_tup (pe_tup (pa_cons pe_int (pa_cons pe_int (pa_cons pe_int pa_nil)))) (pe_op op_mod (pe_callTy call_int1 (by rfl) T.int (by decide +kernel) (pa_cons (pe_op op_fdiv (pv 0) pe_int) pa_nil)) pe_int) (fun _ _ => rfl)) pa_nil)) (pe_op op_rep (pe_lst (pa_cons pe_int pa_nil)) pe_int)) (pa_cons pe_str pa_nil))))))
      pss_nil)
      (pss_one (ps_ret (pe_tup (pa_cons pe_str (pa_cons (pe_op op_cat (pe_call (ok__law_four T) (hr.mono (by decide)) rfl T.g_law_four T.k_law_four T.b_law_four .nil pass0 (pa_cons pe_int pa_nil)) (pe_op op_rep (pe_lst (pa_cons pe_int pa_nil)) pe_int)) (pa_cons pe_str pa_nil)))))))))))))))), ?_⟩
    refine ⟨_, rfl, Or.inl ⟨_, rfl, ?_⟩⟩
    refine ⟨_, _, rfl, rfl, by show (0 : Int) < 8; decide, ?_⟩
    dsimp only
    generalize r % 8 = case
    obtain ⟨n, hn, hn8⟩ : ∃ n : Nat, r / 8 % 9 = (n : Int) ∧ n ≤ 8 := ⟨(r / 8 % 9).toNat, by omega, by omega⟩
    refine ⟨_, rfl, _, _, rfl, rfl, ⟨by decide, by decide⟩, _, rfl, _, _, rfl, rfl, ⟨by decide, by decide⟩, Or.inl ⟨_, rfl, _, _, rfl, rfl, by show (0 : Int) < 9; decide, r / 8, n, ?_, by omega, fun H1 s1 => ?_⟩⟩
    · dsimp only; rw [hn]; rfl
    obtain ⟨tok, tl⟩ := case_text (r / 8) n hn8
    generalize lawTextS (r / 8) n = t at tok tl ⊢
    have tol := textOcts_len t
    have tol2 : (textOcts t).length = 4 + (codesOf t).length + 1 + padN (4 + (codesOf t).length + 1) := by rw [textOcts_eq, List.length_append, List.length_append, List.length_append, octs_len, List.length_replicate]; rfl
    rw [codesOf_len] at tol2
    refine ⟨_, rfl, "text", .str t, .txt t, true, _, rfl, (by have := ArgSpec.txt (s := t); rw [tok] at this; exact this), ⟨rfl, by omega⟩, fun _ pO H2 n2 => ?_, fun z => nomatch z⟩
    have s2 := s1.trans n2.same
    have eO := n2.at_
    have fin : ∀ {k : Str} {bad : List Int} {due : Str} {p : Addr} {H5 : Hp}, CaseOk k bad due → Same H H5 → H5 p = some (.lst (bad.map V.int)) → ∀ t, H5 t = none → Q (.ref t) (upd H5 t (.tup [.str k, .ref p, .str due])) := fun c s e t ht => q _ _ _ t _ _ (s.trans (same_upd ht)) (SqT.of upd_same) (same_upd ht _ _ e) c
    have chr : ∀ x : Int, 1 ≤ 1 + x % 255 ∧ 1 + x % 255 ≤ 255 := fun x => by omega
    -- 0
    refine ⟨_, rfl, rfl, _, rfl, iteEq (fun c => ?_) (fun c0 => ?_)⟩
    · refine ⟨_, rfl, _, rfl, t, rfl, len_line (by omega), _, _, rfl, rfl, _, rfl, _, _, rfl, rfl, ⟨by decide, by decide⟩, Or.inl ⟨_, rfl, _, _, rfl, rfl, by show (0 : Int) < 255; decide, _, _, rfl, rfl, ?_⟩⟩
      refine ⟨pO, textOcts t, 4 + t.length, _, rfl, SqL.of eO, by omega, by omega, fun p H3 n3 => ⟨len_line (by show 3 ≤ 100000; decide), fin (case0_ok tok (by omega) (chr _)) (s2.trans n3.same) n3.at_⟩⟩
    -- 1
    refine ⟨_, rfl, rfl, _, rfl, iteEq (fun c => ?_) (fun c1 => ?_)⟩
    · refine ⟨_, rfl, t, rfl, len_line (by omega), ?_⟩
      refine ⟨len_line (by show 6 ≤ 100000; decide), fun p6 h6 => ?_⟩
      have s3 := same_upd (o := .tup [.int 37, .int 31, .int 127, .int 0, .int 200, .int 255]) h6
      have hj : (r / 32 % 6).toNat < [(37 : Int), 31, 127, 0, 200, 255].length := by show _ < 6; omega
      have hb : (0 ≤ [(37 : Int), 31, 127, 0, 200, 255][(r / 32 % 6).toNat] ∧ [(37 : Int), 31, 127, 0, 200, 255][(r / 32 % 6).toNat] ≤ 255) ∧ codeOk ([(37 : Int), 31, 127, 0, 200, 255][(r / 32 % 6).toNat]) = false := by
        have hm := List.getElem_mem hj
        generalize [(37 : Int), 31, 127, 0, 200, 255][(r / 32 % 6).toNat] = z at hm
        simp only [List.mem_cons, List.not_mem_nil, or_false] at hm
        rcases hm with rfl | rfl | rfl | rfl | rfl | rfl <;> decide
      refine ⟨_, rfl, _, _, rfl, rfl, ⟨by decide, by decide⟩, Or.inl ⟨_, rfl, _, _, rfl, rfl, by show (0 : Int) < 6; decide, p6, _, _, .int ([(37 : Int), 31, 127, 0, 200, 255][(r / 32 % 6).toNat]), rfl, rfl, SqT.of upd_same, at_of (j := (r / 32 % 6).toNat) (by omega) ?_, ?_⟩⟩
      · show ([(37 : Int), 31, 127, 0, 200, 255].map V.int)[(r / 32 % 6).toNat]? = _
        rw [List.getElem?_map, List.getElem?_eq_getElem hj]; rfl
      generalize [(37 : Int), 31, 127, 0, 200, 255][(r / 32 % 6).toNat] = b at hb ⊢
      have eO3 := s3 _ _ eO
      have s3' := s2.trans s3
      generalize upd H2 p6 (.tup [.int 37, .int 31, .int 127, .int 0, .int 200, .int 255]) = H3 at s3' eO3 ⊢
      refine ⟨_, rfl, _, _, rfl, rfl, (t.length : Int) + 2, rfl, fun p1 H4 n4 => ?_⟩
      refine ⟨_, rfl, len_line (by show 1 ≤ 100000; decide), fun p2 h2 => ?_⟩
      have s5 := same_upd (o := .lst [.int b]) h2
      refine ⟨p1, p2, _, _, rfl, rfl, s5 _ _ n4.at_, upd_same, ?_, fun p3 h3 => ?_⟩
      · rw [List.length_map, octs_len]; show 4 + 1 ≤ sizeLine; exact len_line (by decide)
      have s6 := same_upd (o := .lst ((octs ((t.length : Int) + 2) 4).map V.int ++ [V.int b])) h3
      have sx := n4.same.trans (s5.trans s6)
      refine ⟨_, rfl, _, rfl, _, rfl, _, _, rfl, rfl, _, rfl, pO, _, rfl, SqL.of (sx _ _ eO3), fun p4 h4 => ?_⟩
      dsimp only
      rw [cut_case (by omega)]
      rw [show ((textOcts t).drop 4).take t.length = codesOf t from (textOcts_codes t).1]
      have s7 := same_upd (o := .lst ((codesOf t).map V.int)) h4
      have hcl := codesOf_len t
      refine ⟨p3, p4, _, _, rfl, rfl, s7 _ _ upd_same, upd_same, ?_, fun p5 h5 => ?_⟩
      · rw [List.length_append, List.length_map, List.length_map, octs_len, hcl]; show 4 + 1 + _ ≤ sizeLine; exact len_line (by omega)
      have s8 := same_upd (o := .lst ((octs ((t.length : Int) + 2) 4).map V.int ++ [V.int b] ++ (codesOf t).map V.int)) h5
      refine ⟨len_line (by show 1 ≤ 100000; decide), fun p7 h7 => ?_⟩
      have s9 := same_upd (o := .lst [.int 0]) h7
      obtain ⟨m, hm, hm1, hm4⟩ : ∃ m : Nat, (4 : Int) - ((t.length : Int) + 1) % 4 = (m : Int) ∧ 1 ≤ m ∧ m ≤ 4 := ⟨((4 : Int) - ((t.length : Int) + 1) % 4).toNat, by omega, by omega, by omega⟩
      refine ⟨_, rfl, _, _, rfl, rfl, _, _, rfl, rfl, by show (0 : Int) < 4; decide, _, _, rfl, rfl, ?_⟩
      dsimp only
      rw [hm]
      refine ⟨p7, _, _, rfl, rfl, upd_same, by omega, by omega, len_line (by show 1 * _ ≤ 100000; omega), fun p8 h8 => ?_⟩
      rw [rep_flat, Int.toNat_natCast]
      have sa := same_upd (o := .lst (List.replicate m (V.int 0))) h8
      refine ⟨p5, p8, _, _, rfl, rfl, sa _ _ (s9 _ _ upd_same), upd_same, ?_, fun p9 h9 => ?_⟩
      · rw [List.length_append, List.length_append, List.length_map, List.length_map, octs_len, hcl, List.length_replicate]; show 4 + 1 + _ + _ ≤ sizeLine; exact len_line (by omega)
      exact ⟨len_line (by show 3 ≤ 100000; decide), fin (case1_ok tok (by omega) hb.1 hb.2 hm4 hm1) (s3'.trans (sx.trans (s7.trans (s8.trans (s9.trans (sa.trans (same_upd h9))))))) (by rw [upd_same]; simp only [List.map_append, List.map_replicate]; rfl)⟩
    -- 2
    refine ⟨_, rfl, rfl, _, rfl, iteEq (fun c => ?_) (fun c2 => ?_)⟩
    · refine ⟨_, rfl, t, rfl, len_line (by omega), _, _, rfl, rfl, (t.length : Int) + 1, rfl, fun p1 H3 n3 => ?_⟩
      have hcl := codesOf_len t
      refine ⟨_, rfl, _, rfl, _, rfl, t, rfl, len_line (by omega), _, _, rfl, rfl, _, rfl, pO, _, rfl, SqL.of (n3.same _ _ eO), fun p4 h4 => ?_⟩
      dsimp only
      rw [show (5 : Int) + (t.length : Int) = (4 : Int) + ((t.length + 1 : Nat) : Int) by omega, cut_case (by omega)]
      rw [show ((textOcts t).drop 4).take (t.length + 1) = codesOf t ++ [0] from (textOcts_codes t).2]
      have s7 := same_upd (o := .lst ((codesOf t ++ [0]).map V.int)) h4
      refine ⟨p1, p4, _, _, rfl, rfl, s7 _ _ n3.at_, upd_same, ?_, fun p5 h5 => ?_⟩
      · rw [List.length_map, List.length_map, octs_len, List.length_append, hcl]; show 4 + (_ + 1) ≤ sizeLine; exact len_line (by omega)
      have s8 := same_upd (o := .lst ((octs ((t.length : Int) + 1) 4).map V.int ++ (codesOf t ++ [0]).map V.int)) h5
      refine ⟨len_line (by show 1 ≤ 100000; decide), fun p7 h7 => ?_⟩
      have s9 := same_upd (o := .lst [.int 0]) h7
      have hm : ((3 : Int) - (t.length : Int)) % 4 = ((padN (4 + (codesOf t).length + 1) : Nat) : Int) := by rw [hcl]; unfold padN; omega
      have hm3 := padN_le (4 + (codesOf t).length + 1)
      refine ⟨_, rfl, t, rfl, len_line (by omega), _, _, rfl, rfl, _, _, rfl, rfl, by show (0 : Int) < 4; decide, ?_⟩
      dsimp only
      rw [hm]
      refine ⟨p7, _, _, rfl, rfl, upd_same, by omega, by omega, len_line (by show 1 * _ ≤ 100000; omega), fun p8 h8 => ?_⟩
      rw [rep_flat, Int.toNat_natCast]
      have sa := same_upd (o := .lst (List.replicate (padN (4 + (codesOf t).length + 1)) (V.int 0))) h8
      refine ⟨p5, p8, _, _, rfl, rfl, sa _ _ (s9 _ _ upd_same), upd_same, ?_, fun p9 h9 => ?_⟩
      · rw [List.length_append, List.length_map, List.length_map, octs_len, List.length_append, hcl, List.length_replicate]; rw [hcl] at hm3; show 4 + (_ + 1) + _ ≤ sizeLine; exact len_line (by omega)
      have sb := n3.same.trans (s7.trans (s8.trans (s9.trans (sa.trans (same_upd (o := .lst ((octs ((t.length : Int) + 1) 4).map V.int ++ (codesOf t ++ [0]).map V.int ++ List.replicate (padN (4 + (codesOf t).length + 1)) (V.int 0))) h9)))))
      have e9 : (upd (upd (upd (upd (upd H3 p4 (.lst ((codesOf t ++ [0]).map V.int))) p5 (.lst ((octs ((t.length : Int) + 1) 4).map V.int ++ (codesOf t ++ [0]).map V.int))) p7 (.lst [.int 0])) p8 (.lst (List.replicate (padN (4 + (codesOf t).length + 1)) (V.int 0)))) p9 (.lst ((octs ((t.length : Int) + 1) 4).map V.int ++ (codesOf t ++ [0]).map V.int ++ List.replicate (padN (4 + (codesOf t).length + 1)) (V.int 0)))) p9 = some (.lst ((textOcts t).map V.int)) := by
        rw [upd_same, textOcts_eq, hcl]; simp only [List.map_append, List.map_replicate, List.append_assoc]
      generalize upd (upd (upd (upd (upd H3 p4 (.lst ((codesOf t ++ [0]).map V.int))) p5 (.lst ((octs ((t.length : Int) + 1) 4).map V.int ++ (codesOf t ++ [0]).map V.int))) p7 (.lst [.int 0])) p8 (.lst (List.replicate (padN (4 + (codesOf t).length + 1)) (V.int 0)))) p9 (.lst ((octs ((t.length : Int) + 1) 4).map V.int ++ (codesOf t ++ [0]).map V.int ++ List.replicate (padN (4 + (codesOf t).length + 1)) (V.int 0))) = H9 at sb e9 ⊢
      refine ⟨_, rfl, t, rfl, len_line (by omega), Or.inl ⟨_, rfl, _, _, rfl, rfl, by show (0 : Int) < 4; decide, rfl, _, rfl, iteEq (fun c3 => ?_) (fun c3 => ?_)⟩⟩
      · exact ⟨_, rfl, len_line (by show 3 ≤ 100000; decide), fin (case2_none tok (by omega)) (s2.trans sb) e9⟩
      · have c3' : (t.length : Int) % 4 ≠ 3 := c3
        refine ⟨_, rfl, _, rfl, p9, _, rfl, .inl (SqL.of e9), _, _, rfl, rfl, _, rfl, _, _, rfl, rfl, ⟨by decide, by decide⟩, Or.inl ⟨_, rfl, _, _, rfl, rfl, by show (0 : Int) < 255; decide, _, _, rfl, rfl, ?_⟩⟩
        refine ⟨p9, textOcts t, (textOcts t).length - 1, 1 + r / 16 % 255, ?_, SqL.of e9, by omega, by omega, fun p H4 n4 => ⟨len_line (by show 3 ≤ 100000; decide), fin (case2_pad tok (by omega) (chr (r / 16)) (by omega)) (s2.trans (sb.trans n4.same)) n4.at_⟩⟩
        dsimp only
        rw [List.length_map, show ((textOcts t).length : Int) - 1 = (((textOcts t).length - 1 : Nat) : Int) by omega]; rfl
    -- 3
    refine ⟨_, rfl, rfl, _, rfl, iteEq (fun c => ?_) (fun c3 => ?_)⟩
    · refine ⟨_, rfl, _, _, rfl, rfl, ⟨by decide, by decide⟩, Or.inl ⟨_, rfl, _, _, rfl, rfl, by show (0 : Int) < 3; decide, _, _, rfl, rfl, ?_⟩⟩
      refine ⟨1 + r / 8 % 3, rfl, fun p1 H3 n3 => ?_⟩
      refine ⟨len_line (by show 4 ≤ 100000; decide), fun p2 h2 => ?_⟩
      have s5 := same_upd (o := .lst [.int 7, .int 7, .int 7, .int 9]) h2
      refine ⟨p1, p2, _, _, rfl, rfl, s5 _ _ n3.at_, upd_same, ?_, fun p3 h3 => ?_⟩
      · rw [List.length_map, octs_len]; show 4 + 4 ≤ sizeLine; exact len_line (by decide)
      exact ⟨len_line (by show 3 ≤ 100000; decide), fin (case3_ok (l := 1 + r / 8 % 3) (by omega)) (s2.trans (n3.same.trans (s5.trans (same_upd h3)))) (by rw [upd_same, List.map_append]; rfl)⟩
    -- 4
    refine ⟨_, rfl, rfl, _, rfl, iteEq (fun c => ?_) (fun c4 => ?_)⟩
    · refine ⟨len_line (by show 2 ≤ 100000; decide), fun p6 h6 => ?_⟩
      have s3 := same_upd (o := .tup [.str "object", .str "new"]) h6
      have hj : (r / 8 % 2).toNat < [("object" : Str), "new"].length := by show _ < 2; omega
      have hb : [("object" : Str), "new"][(r / 8 % 2).toNat] = "object" ∨ [("object" : Str), "new"][(r / 8 % 2).toNat] = "new" := by
        have hm := List.getElem_mem hj
        generalize [("object" : Str), "new"][(r / 8 % 2).toNat] = z at hm
        simp only [List.mem_cons, List.not_mem_nil, or_false] at hm
        exact hm
      refine ⟨_, rfl, _, _, rfl, rfl, ⟨by decide, by decide⟩, Or.inl ⟨_, rfl, _, _, rfl, rfl, by show (0 : Int) < 2; decide, p6, _, _, .str ([("object" : Str), "new"][(r / 8 % 2).toNat]), rfl, rfl, SqT.of upd_same, at_of (j := (r / 8 % 2).toNat) (by omega) ?_, ?_⟩⟩
      · show ([("object" : Str), "new"].map V.str)[(r / 8 % 2).toNat]? = _
        rw [List.getElem?_map, List.getElem?_eq_getElem hj]; rfl
      generalize [("object" : Str), "new"][(r / 8 % 2).toNat] = kd at hb ⊢
      exact ⟨len_line (by show 4 ≤ 100000; decide), fun p1 h1 => ⟨len_line (by show 3 ≤ 100000; decide), fin (case4_ok hb) (s2.trans (s3.trans (same_upd h1))) (by rw [upd_same]; rfl)⟩⟩
    -- 5
    refine ⟨_, rfl, rfl, _, rfl, iteEq (fun c => ?_) (fun c5 => ?_)⟩
    · refine ⟨_, rfl, len_line (by show 4 ≤ 100000; decide), fun p1 h1 => ?_⟩
      have s3 := same_upd (o := .lst [.int 0, .int 0, .int 0, .int 0]) h1
      refine ⟨pO, p1, _, _, rfl, rfl, s3 _ _ eO, upd_same, ?_, fun p3 h3 => ?_⟩
      · rw [List.length_map]; show _ + 4 ≤ sizeLine; exact len_line (by omega)
      exact ⟨len_line (by show 3 ≤ 100000; decide), fin (case5_ok tok (by omega)) (s2.trans (s3.trans (same_upd h3))) (by rw [upd_same, List.map_append]; rfl)⟩
    -- 6
    refine ⟨_, rfl, rfl, _, rfl, iteEq (fun c => ?_) (fun c6 => ?_)⟩
    · refine ⟨len_line (by show 3 ≤ 100000; decide), fun p6 h6 => ?_⟩
      have s3 := same_upd (o := .tup [.int 0, .int 1002, .int 4294967295]) h6
      have hj : (r / 8 % 3).toNat < [(0 : Int), 1002, 4294967295].length := by show _ < 3; omega
      have hb : (0 ≤ [(0 : Int), 1002, 4294967295][(r / 8 % 3).toNat] ∧ [(0 : Int), 1002, 4294967295][(r / 8 % 3).toNat] < 4294967296) ∧ ¬ (1 ≤ [(0 : Int), 1002, 4294967295][(r / 8 % 3).toNat] ∧ [(0 : Int), 1002, 4294967295][(r / 8 % 3).toNat] ≤ 1001) := by
        have hm := List.getElem_mem hj
        generalize [(0 : Int), 1002, 4294967295][(r / 8 % 3).toNat] = z at hm
        simp only [List.mem_cons, List.not_mem_nil, or_false] at hm
        omega
      refine ⟨_, rfl, _, _, rfl, rfl, ⟨by decide, by decide⟩, Or.inl ⟨_, rfl, _, _, rfl, rfl, by show (0 : Int) < 3; decide, p6, _, _, .int ([(0 : Int), 1002, 4294967295][(r / 8 % 3).toNat]), rfl, rfl, SqT.of upd_same, at_of (j := (r / 8 % 3).toNat) (by omega) ?_, ?_⟩⟩
      · show ([(0 : Int), 1002, 4294967295].map V.int)[(r / 8 % 3).toNat]? = _
        rw [List.getElem?_map, List.getElem?_eq_getElem hj]; rfl
      generalize [(0 : Int), 1002, 4294967295][(r / 8 % 3).toNat] = b at hb ⊢
      refine ⟨b, rfl, fun p1 H4 n4 => ?_⟩
      refine ⟨len_line (by show 1 ≤ 100000; decide), fun p2 h2 => ?_⟩
      have s5 := same_upd (o := .lst [.int 65]) h2
      refine ⟨p2, 1004, _, rfl, rfl, upd_same, by decide, by decide, len_line (by decide), fun p3 h3 => ?_⟩
      have s6 := same_upd (o := .lst (List.replicate (1004 : Int).toNat [V.int 65]).flatten) h3
      refine ⟨p1, p3, _, _, rfl, rfl, s6 _ _ (s5 _ _ n4.at_), upd_same, ?_, fun p4 h4 => ?_⟩
      · rw [List.length_map, octs_len, rep_flat, List.length_replicate]; exact len_line (by decide)
      exact ⟨len_line (by show 3 ≤ 100000; decide), fin (case6_ok hb.1 hb.2) (s2.trans (s3.trans (n4.same.trans (s5.trans (s6.trans (same_upd h4)))))) (by rw [upd_same, rep_flat, List.map_append, List.map_replicate]; rfl)⟩
    -- 7
    refine ⟨16385, rfl, fun p1 H4 n4 => ?_⟩
    refine ⟨len_line (by show 1 ≤ 100000; decide), fun p2 h2 => ?_⟩
    have s5 := same_upd (o := .lst [.int 0]) h2
    refine ⟨p2, 16388, _, rfl, rfl, upd_same, by decide, by decide, len_line (by decide), fun p3 h3 => ?_⟩
    have s6 := same_upd (o := .lst (List.replicate (16388 : Int).toNat [V.int 0]).flatten) h3
    refine ⟨p1, p3, _, _, rfl, rfl, s6 _ _ (s5 _ _ n4.at_), upd_same, ?_, fun p4 h4 => ?_⟩
    · rw [List.length_map, octs_len, rep_flat, List.length_replicate]; exact len_line (by decide)
    exact ⟨len_line (by show 3 ≤ 100000; decide), fin case7_ok (s2.trans (n4.same.trans (s5.trans (s6.trans (same_upd h4))))) (by rw [upd_same, rep_flat, List.map_append, List.map_replicate]; rfl)⟩
theorem errWord_ok (e : RErr) : PyData.strOk (errWord e) = true := by cases e <;> decide +kernel
theorem toldWord_ok (xs : List Int) (ks : List Str) : PyData.strOk (toldWord xs ks) = true := by
  unfold toldWord
  cases rdArgs xs ks with
  | error e => exact errWord_ok e
  | ok r => show PyData.strOk "none" = true; decide +kernel
theorem sc_law : FnScope ["script", "k", "row", "kinds", "octets", "j", "more", "kind", "cut", "bad", "due"] ["script"] (defScope s_law) := ⟨rfl, rfl, rfl, by decide +kernel, rfl, by decide +kernel, by decide +kernel⟩
theorem ok_law (T : Txt K mg A) : FnOk P w K mg base CX0 8 A.flaw A.dlaw ["script"] (sp_law K) := by
  refine T.Flaw.ok sc_law (fun vs H Q E h => ?_) (fun cdv Ar outer s H vs Q E hr h => ?_)
  · obtain ⟨a, ns, rfl, _⟩ := h
    rfl
  · obtain ⟨a, ns, rfl, hS, hlen, q⟩ := h
    refine ⟨_, (pss_cons (ps_for PassesOwn.never rfl (pi_range1 (by rfl) T.range (pa_cons (pe_op op_add (pe_callB (call_min2 rfl) (by rfl) T.min (by decide +kernel) (pa_cons (pe_callB call_len_seq (by rfl) T.len PySem.boot_len (pa_cons (pv 0) pa_nil)) (pa_cons pe_int pa_nil))) pe_int) pa_nil)) (pg_name (i := 1) sc_law.nd rfl (Or.inl rfl))
      (pss_cons (ps_set (i := 2) sc_law.nd rfl (Or.inl rfl) (pe_call (ok__law_row T) (hr.mono (by decide)) rfl T.g_law_row T.k_law_row T.b_law_row .nil pass0 (pa_cons (pv 0) (pa_cons (pv 1) pa_nil))))
      (pss_cons (ps_set (i := 3) sc_law.nd rfl (Or.inl rfl) (pe_lst pa_nil))
      (pss_cons (ps_set (i := 4) sc_law.nd rfl (Or.inl rfl) (pe_lst pa_nil))
      (pss_cons (ps_for PassesOwn.never rfl (pi_range1 (by rfl) T.range (pa_cons (pe_op op_mod (pe_callTy call_int1 (by rfl) T.int (by decide +kernel) (pa_cons (pv 2) pa_nil)) pe_int) pa_nil)) (pg_name (i := 5) sc_law.nd rfl (Or.inl rfl))
      (pss_cons (ps_set (i := 6) sc_law.nd rfl (Or.inl rfl) (pe_op op_add (pe_call (ok__law_row T) (hr.mono (by decide)) rfl T.g_law_row T.k_law_row T.b_law_row .nil pass0 (pa_cons (pv 0) (pa_cons (pe_op op_add (pe_op op_add pe_int (pe_op op_mul pe_int (pv 1))) (pv 5)) pa_nil))) (pe_op op_fdiv (pv 2) (pe_op op_add (pv 5) pe_int))))
      (pss_cons (ps_set (i := 7) sc_law.nd rfl (Or.inl rfl) (pe_call (ok__law_kind T) (hr.mono (by decide)) rfl T.g_law_kind T.k_law_kind T.b_law_kind .nil pass0 (pa_cons (pv 6) pa_nil)))
      (pss_cons (ps_expr (pe_bm PySem.F.plainAttrs_list PySem.F.slot_list_append PySem.F.type_list_append mt_append (pv 3) (pa_cons (pv 7) pa_nil)))
      (pss_one (ps_set (i := 4) sc_law.nd rfl (Or.inl rfl) (pe_op op_cat (pv 4) (pe_call (ok_field_octets T) (hr.mono (by decide)) rfl T.gfield_octets T.kfield_octets T.bfield_octets .nil passL (pa_cons (pv 7) (pa_cons (pe_call (ok__law_value T) (hr.mono (by decide)) rfl T.g_law_value T.k_law_value T.b_law_value .nil pass0 (pa_cons (pv 7) (pa_cons (pe_callTy call_int1 (by rfl) T.int (by decide +kernel) (pa_cons (pe_op op_fdiv (pv 6) pe_int) pa_nil)) pa_nil))) pa_nil))))))))))
      (pss_cons (ps_if (pt_cmpR (op_neD hr.units) (pe_call (ok__law_told T) (hr.mono (by decide)) rfl T.g_law_told T.k_law_told T.b_law_told .nil pass0 (pa_cons (pv 3) (pa_cons (pe_op op_cat (pv 4) (pe_lst (pa_cons (pe_op op_mod (pe_callTy call_int1 (by rfl) T.int (by decide +kernel) (pa_cons (pe_op op_fdiv (pv 2) pe_int) pa_nil)) pe_int) pa_nil))) pa_nil))) pe_str (nomark _))
      (pss_one (ps_ret pe_bl))
      pss_nil)
      (pss_cons (ps_set (i := 8) sc_law.nd rfl (Or.inl rfl) (pe_op op_mod (pe_callTy call_int1 (by rfl) T.int (by decide +kernel) (pa_cons (pe_op op_fdiv (pv 2) pe_int) pa_nil)) (pe_op op_add (pe_callB call_len_seq (by rfl) T.len PySem.boot_len (pa_cons (pv 4) pa_nil)) pe_int)))
      (C8.pss_cut (ps_if (PW.pt (pw_and (pt_cmpR op_lt (pv 8) (pe_callB call_len_seq (by rfl) T.len PySem.boot_len (pa_cons (pv 4) pa_nil)) (nomark _)) (pw_and1 (pt_cmpR (op_neD hr.units) (pe_call (ok__law_told T) (hr.mono (by decide)) rfl T.g_law_told T.k_law_told T.b_law_told .nil pass0 (pa_cons (pv 3) (pa_cons (pe_slice (r := rSlL K) sl_list (pv 4) po_none (po_some (pv 8))) pa_nil))) pe_str (nomark _)))))
      (pss_one (ps_ret pe_bl))
      pss_nil)
      (pss_cons (ps_asg (pe_call (ok__law_case T) (hr.mono (by decide)) rfl T.g_law_case T.k_law_case T.b_law_case .nil pass0 (pa_cons (pe_callTy call_int1 (by rfl) T.int (by decide +kernel) (pa_cons (pe_op op_fdiv (pv 2) pe_int) pa_nil)) (pa_cons (pv 4) pa_nil))) (pg_tup rfl (pgs_cons (pg_name (i := 7) sc_law.nd rfl (Or.inl rfl)) (pgs_cons (pg_name (i := 9) sc_law.nd rfl (Or.inl rfl)) (pgs_cons (pg_name (i := 10) sc_law.nd rfl (Or.inl rfl)) pgs_nil)))))
      (pss_one (ps_if (pt_cmpR (op_neD hr.units) (pe_call (ok__law_told T) (hr.mono (by decide)) rfl T.g_law_told T.k_law_told T.b_law_told .nil pass0 (pa_cons (pe_op op_cat (pv 3) (pe_lst (pa_cons (pv 7) pa_nil))) (pa_cons (pe_op op_cat (pv 4) (pv 9)) pa_nil))) (pv 10) (nomark _))
      (pss_one (ps_ret pe_bl))
      pss_nil)))))))))))
      (pss_one (ps_ret pe_bl))), ?_⟩
    refine ⟨_, rfl, a, _, rfl, .inl hS, _, _, rfl, _, _, rfl, rfl, _, rfl, ?_, ?_, ?_⟩
    · split <;> omega
    · rw [List.length_map]; split <;> omega
    refine for_range (lo := 0) (fun i σ H' => ∃ v1 v2 v3 v4 v5 v6 v7 v8 v9 v10 : Option V, σ = [some (.ref a), v1, v2, v3, v4, v5, v6, v7, v8, v9, v10] ∧ Same H H') ⟨_, _, _, _, _, _, _, _, _, _, rfl, Same.refl H⟩ ?_ ?_
    · rintro i σ H1 hi ⟨v1, v2, v3, v4, v5, v6, v7, v8, v9, v10, rfl, s1⟩
      refine ⟨_, rfl, _, rfl, a, ns, i, ?_, s1.seq hS, ?_⟩
      · show [V.ref a, V.int (0 + (i : Int))] = [V.ref a, V.int (i : Int)]
        rw [Int.zero_add]
      generalize lawRow ns i = row
      refine ⟨len_line (by show 0 ≤ 100000; decide), fun pK hK => ?_⟩
      refine ⟨len_line (by show 0 ≤ 100000; decide), fun pO0 hO0 => ?_⟩
      have sK := same_upd (o := .lst []) hK
      have nKO : pK ≠ pO0 := ne_of_none upd_same hO0
      have sO := same_upd (o := .lst []) hO0
      refine ⟨_, rfl, Or.inl ⟨_, rfl, _, _, rfl, rfl, by show (0 : Int) < 6; decide, _, rfl, by omega, by omega, ?_⟩⟩
      refine for_range (lo := 0) (fun j σ H' => ∃ (v5 v6 v7 : Option V) (pO : Addr) (args : List Arg),
          σ = [some (.ref a), some (.int (0 + (i : Int))), some (.int row), some (.ref pK), some (.ref pO), v5, v6, v7, v8, v9, v10] ∧ Same H1 H' ∧
          H' pK = some (.lst ((args.map Arg.kind).map V.str)) ∧ H' pO = some (.lst ((bodyOf args).map V.int)) ∧ pO ≠ pK ∧ (∀ g ∈ args, ArgSpec g.kind g.val true g.os ∧ g.os.length ≤ 60) ∧ args.length = j)
        ⟨v5, v6, v7, pO0, [], rfl, sK.trans sO, sO _ _ upd_same, upd_same, nKO.symm, (fun g hg => by cases hg), rfl⟩ ?_ ?_
      · rintro j σ H2 hj ⟨v5, v6, v7, pO, args, rfl, x1, eK, eO, nOK, hA, hl⟩
        have hj7 : j < 6 := by omega
        refine ⟨_, rfl, _, rfl, _, _, rfl, rfl, Or.inl ⟨by decide, by decide⟩, _, _, rfl, rfl, _, rfl, _, _, rfl, rfl, a, ns, 63 + 7 * i + j, ?_, (s1.trans x1).seq hS, ?_⟩
        · show [V.ref a, V.int (63 + 7 * (0 + (i : Int)) + (0 + (j : Int)))] = _
          rw [Int.zero_add, Int.zero_add]; rfl
        refine ⟨_, rfl, _, rfl, _, _, rfl, rfl, _, _, rfl, rfl, ⟨by show (0 : Int) < 0 + (j : Int) + 1; omega, by show 0 + (j : Int) + 1 < 1073741824; omega⟩, _, _, rfl, rfl, ?_⟩
        dsimp only
        generalize lawRow ns (63 + 7 * i + j) + row / (0 + (j : Int) + 1) = more
        refine ⟨_, rfl, more, rfl, fun kd H3 s3 hkd => ?_⟩
        have eK3 := s3 _ _ eK
        refine ⟨_, rfl, .inl ⟨rfl, _, SqL.of eK3⟩, _, rfl, pK, _, .str kd, rfl, rfl, eK3, lt_line (by rw [List.length_map, List.length_map]; omega), ?_⟩
        have x6 : Same H1 (upd H3 pK (.lst ((args.map Arg.kind).map V.str ++ [V.str kd]))) := fun b o e => by rw [upd_ne (ne_of_none e hK)]; exact s3 _ _ (x1 _ _ e)
        have eK5 : (upd H3 pK (.lst ((args.map Arg.kind).map V.str ++ [V.str kd]))) pK = some (.lst ((args.map Arg.kind).map V.str ++ [V.str kd])) := upd_same
        have eO5 : (upd H3 pK (.lst ((args.map Arg.kind).map V.str ++ [V.str kd]))) pO = some (.lst ((bodyOf args).map V.int)) := by rw [upd_ne nOK]; exact s3 _ _ eO
        generalize upd H3 pK (.lst ((args.map Arg.kind).map V.str ++ [V.str kd])) = H5 at x6 eK5 eO5 ⊢
        refine ⟨_, rfl, _, rfl, _, rfl, _, rfl, _, _, rfl, rfl, ⟨by decide, by decide⟩, Or.inl ⟨_, rfl, ?_⟩⟩
        refine ⟨kd, more / 8, H5, rfl, hkd, Same.refl _, fun v x os U4 H6 x4 hsp hat hos => ?_⟩
        refine ⟨kd, v, x, true, os, rfl, hsp, hat.to x4.vh, fun _ p2 H7 n7 => ?_, fun z => nomatch z⟩
        have hbl := body_len_le (c := 60) fun g hg => (hA g hg).2
        have sy := x4.hh.trans n7.same
        refine ⟨pO, p2, _, _, rfl, rfl, sy _ _ eO5, n7.at_, ?_, fun p8 h8 => ?_⟩
        · rw [List.length_map, List.length_map]; exact len_line (by omega)
        have s8 := sy.trans (same_upd (o := .lst ((bodyOf args).map V.int ++ os.map V.int)) h8)
        refine ⟨_, _, _, p8, args ++ [⟨kd, x, os⟩], rfl, x6.trans s8, ?_, ?_, (ne_of_none (sy _ _ eK5) h8).symm, fun g hg => ?_, by rw [List.length_append, hl]; rfl⟩
        · rw [s8 _ _ eK5, List.map_append, List.map_append]; rfl
        · rw [upd_same]; unfold bodyOf; rw [List.flatMap_append, List.map_append]; show _ = some (HO.lst (_ ++ (os ++ []).map V.int)); rw [List.append_nil]
        · rcases List.mem_append.mp hg with h | h
          · exact hA g h
          · obtain rfl := List.mem_singleton.mp h
            exact ⟨hsp, hos⟩
      · rintro σ H2 ⟨v5, v6, v7, pO, args, rfl, x1, eK, eO, nOK, hA, hl⟩
        have hl7 : args.length ≤ 6 := by omega
        have hbl := body_len_le (c := 60) fun g hg => (hA g hg).2
        have hsp := fun g hg => (hA g hg).1
        have hbo := body_ok hsp
        have hx256 : ∀ z : Int, okOcts [z % 256] := fun z x hx => by rw [List.mem_singleton.mp hx]; omega
        -- one octet more
        refine ⟨_, rfl, _, rfl, _, rfl, _, _, rfl, rfl, ⟨by decide, by decide⟩, Or.inl ⟨_, rfl, _, _, rfl, rfl, by show (0 : Int) < 256; decide, ?_⟩⟩
        refine ⟨len_line (by show 1 ≤ 100000; decide), fun p1 h1 => ?_⟩
        have t1 := same_upd (o := .lst [.int (row / 6 % 256)]) h1
        refine ⟨pO, p1, _, _, rfl, rfl, t1 _ _ eO, upd_same, ?_, fun p2 h2 => ?_⟩
        · rw [List.length_map]; show _ + 1 ≤ sizeLine; exact len_line (by omega)
        have t2 := t1.trans (same_upd (o := .lst ((bodyOf args).map V.int ++ [.int (row / 6 % 256)])) h2)
        refine ⟨pK, p2, args.map Arg.kind, bodyOf args ++ [row / 6 % 256], rfl, SqL.of (t2 _ _ eK), by rw [List.length_map]; omega, ⟨SqL.of (by rw [upd_same, List.map_append]; rfl), hbo.app (hx256 _), by rw [List.length_append]; show _ + 1 < 100000; omega⟩, fun H3 s3 => ?_⟩
        have lenOk : Sh 0 (.str "length") := sh_str (by decide +kernel)
        rw [word_more hsp]
        refine ⟨_, _, .str _, .str _, lenOk.shaped, lenOk.shaped, _, rfl, if_f (by rw [lenOk.self]; rfl) ?_⟩
        have t3 := t2.trans s3
        have eK3 := t3 _ _ eK
        have eO3 := t3 _ _ eO
        -- the cut
        refine ⟨_, rfl, _, _, rfl, rfl, ⟨by decide, by decide⟩, Or.inl ⟨_, rfl, _, rfl, pO, _, rfl, .inl (SqL.of eO3), _, _, rfl, rfl, _, _, rfl, rfl, by show (0 : Int) < _ + 1; omega, ?_⟩⟩
        dsimp only
        rw [List.length_map]
        obtain ⟨c, hc, hcl⟩ : ∃ c : Nat, row / 12 % (((bodyOf args).length : Int) + 1) = (c : Int) ∧ c ≤ (bodyOf args).length := by
          have a1 := Int.emod_nonneg (row / 12) (show (((bodyOf args).length : Int) + 1) ≠ 0 by omega)
          have a2 := Int.emod_lt_of_pos (row / 12) (show (0 : Int) < ((bodyOf args).length : Int) + 1 by omega)
          exact ⟨(row / 12 % (((bodyOf args).length : Int) + 1)).toNat, by omega, by omega⟩
        rw [hc]
        refine ⟨fun σ' H' => σ' = [some (.ref a), some (.int (0 + (i : Int))), some (.int row), some (.ref pK), some (.ref pO), v5, v6, v7, some (.int (c : Int)), v9, v10] ∧ Same H2 H', ?_, ?_⟩
        · refine ⟨_, rfl, _, rfl, pO, _, rfl, .inl (SqL.of eO3), _, _, rfl, rfl, _, rfl, ?_⟩
          rw [List.length_map]
          refine iteP (fun c1 => ?_) (fun c1 => if_f rfl ⟨rfl, t3⟩)
          refine ⟨_, rfl, _, rfl, _, rfl, _, rfl, pO, _, rfl, SqL.of eO3, fun p4 h4 => ?_⟩
          rw [cut_pre hcl]
          have s4 := same_upd (o := .lst (((bodyOf args).take c).map V.int)) h4
          refine ⟨pK, p4, args.map Arg.kind, (bodyOf args).take c, rfl, SqL.of (s4 _ _ eK3), by rw [List.length_map]; omega, ⟨SqL.of upd_same, (fun x hx => hbo x (List.mem_of_mem_take hx)), by rw [List.length_take]; omega⟩, fun H4 s5 => ?_⟩
          rw [word_short hsp (by omega)]
          exact ⟨_, _, .str _, .str _, lenOk.shaped, lenOk.shaped, _, rfl, if_f (by rw [lenOk.self]; rfl) ⟨rfl, t3.trans (s4.trans s5)⟩⟩
        rintro σ' H4 ⟨rfl, t4⟩
        -- one argument more
        refine ⟨_, rfl, _, _, rfl, rfl, ⟨by decide, by decide⟩, Or.inl ⟨_, rfl, _, rfl, row / 24, .ref pO, rfl, fun kd bad due t p H5 s5 ht ep cs => ?_⟩⟩
        refine ⟨t, _, rfl, ht, rfl, _, _, rfl, _, _, rfl, _, _, rfl, rfl, ?_⟩
        have t5 := t4.trans s5
        have hcsl := cs.len
        refine ⟨_, rfl, _, rfl, len_line (by show 1 ≤ 100000; decide), fun q1 g1 => ?_⟩
        have u1 := same_upd (o := .lst [.str kd]) g1
        refine ⟨pK, q1, _, _, rfl, rfl, u1 _ _ (t5 _ _ eK), upd_same, ?_, fun q2 g2 => ?_⟩
        · rw [List.length_map, List.length_map]; show _ + 1 ≤ sizeLine; exact len_line (by omega)
        have u2 := u1.trans (same_upd (o := .lst ((args.map Arg.kind).map V.str ++ [.str kd])) g2)
        refine ⟨_, rfl, _, rfl, pO, p, _, _, rfl, rfl, u2 _ _ (t5 _ _ eO), u2 _ _ ep, ?_, fun q3 g3 => ?_⟩
        · rw [List.length_map, List.length_map]; exact len_line (by omega)
        have u3 := same_upd (o := .lst ((bodyOf args).map V.int ++ bad.map V.int)) g3
        refine ⟨q2, q3, args.map Arg.kind ++ [kd], bodyOf args ++ bad, rfl, SqL.of (u3 _ _ (by rw [upd_same, List.map_append]; rfl)), by rw [List.length_append, List.length_map]; show _ + 1 < 60000; omega, ⟨SqL.of (by rw [upd_same, List.map_append]), hbo.app cs.ok, by rw [List.length_append]; omega⟩, fun H6 s6 => ?_⟩
        have wd := word_case hsp cs
        have dOk : Sh 0 (.str due) := sh_str (by rw [← wd]; exact toldWord_ok _ _)
        rw [wd]
        exact ⟨_, rfl, _, _, .str _, .str _, dOk.shaped, dOk.shaped, _, rfl, if_f (by rw [dOk.self]; rfl) ⟨_, _, _, _, _, _, _, _, _, _, rfl, s1.trans (x1.trans (t5.trans (u2.trans (u3.trans s6))))⟩⟩
    · rintro σ H1 _
      exact q H1
end
theorem all_mk {K : PySem.W.Frag} {h : Heap} {mg : Str → Option Value} {fa : Addr} (X : K.In h) (G : h.Ns mainGlobals mg) (hfa : mg "law" = some (.ref fa))
    {fis_integer : Addr} {od1 an1 : Option Addr} {sl1 : Array (Option Value)} {oc1 kV1 dc1 pm1 cd1 ct1 : Value}
    {fis_text : Addr} {od2 an2 : Option Addr} {sl2 : Array (Option Value)} {oc2 kV2 dc2 pm2 cd2 ct2 : Value}
    {fnumber_octets : Addr} {od3 an3 : Option Addr} {sl3 : Array (Option Value)} {oc3 kV3 dc3 pm3 cd3 ct3 : Value}
    {fnumber_at : Addr} {od4 an4 : Option Addr} {sl4 : Array (Option Value)} {oc4 kV4 dc4 pm4 cd4 ct4 : Value}
    {ffield_octets : Addr} {od5 an5 : Option Addr} {sl5 : Array (Option Value)} {oc5 kV5 dc5 pm5 cd5 ct5 : Value}
    {fread_arguments : Addr} {od6 an6 : Option Addr} {sl6 : Array (Option Value)} {oc6 kV6 dc6 pm6 cd6 ct6 : Value}
    {f_is_code : Addr} {od7 an7 : Option Addr} {sl7 : Array (Option Value)} {oc7 kV7 dc7 pm7 cd7 ct7 : Value}
    {f_is_of : Addr} {od8 an8 : Option Addr} {sl8 : Array (Option Value)} {oc8 kV8 dc8 pm8 cd8 ct8 : Value}
    {f_are_octets : Addr} {od9 an9 : Option Addr} {sl9 : Array (Option Value)} {oc9 kV9 dc9 pm9 cd9 ct9 : Value}
    {f_is_bound : Addr} {od10 an10 : Option Addr} {sl10 : Array (Option Value)} {oc10 kV10 dc10 pm10 cd10 ct10 : Value}
    {f_text_octets : Addr} {od11 an11 : Option Addr} {sl11 : Array (Option Value)} {oc11 kV11 dc11 pm11 cd11 ct11 : Value}
    {f_padded : Addr} {od12 an12 : Option Addr} {sl12 : Array (Option Value)} {oc12 kV12 dc12 pm12 cd12 ct12 : Value}
    {f_read : Addr} {od13 an13 : Option Addr} {sl13 : Array (Option Value)} {oc13 kV13 dc13 pm13 cd13 ct13 : Value}
    {f_read_number : Addr} {od14 an14 : Option Addr} {sl14 : Array (Option Value)} {oc14 kV14 dc14 pm14 cd14 ct14 : Value}
    {f_read_named : Addr} {od15 an15 : Option Addr} {sl15 : Array (Option Value)} {oc15 kV15 dc15 pm15 cd15 ct15 : Value}
    {f_read_text : Addr} {od16 an16 : Option Addr} {sl16 : Array (Option Value)} {oc16 kV16 dc16 pm16 cd16 ct16 : Value}
    {f_read_octets : Addr} {od17 an17 : Option Addr} {sl17 : Array (Option Value)} {oc17 kV17 dc17 pm17 cd17 ct17 : Value}
    {f_demand : Addr} {od18 an18 : Option Addr} {sl18 : Array (Option Value)} {oc18 kV18 dc18 pm18 cd18 ct18 : Value}
    {f_behind_padding : Addr} {od19 an19 : Option Addr} {sl19 : Array (Option Value)} {oc19 kV19 dc19 pm19 cd19 ct19 : Value}
    {f_law_cell : Addr} {od20 an20 : Option Addr} {sl20 : Array (Option Value)} {oc20 kV20 dc20 pm20 cd20 ct20 : Value}
    {f_law_row : Addr} {od21 an21 : Option Addr} {sl21 : Array (Option Value)} {oc21 kV21 dc21 pm21 cd21 ct21 : Value}
    {f_law_sign : Addr} {od22 an22 : Option Addr} {sl22 : Array (Option Value)} {oc22 kV22 dc22 pm22 cd22 ct22 : Value}
    {f_law_text : Addr} {od23 an23 : Option Addr} {sl23 : Array (Option Value)} {oc23 kV23 dc23 pm23 cd23 ct23 : Value}
    {f_law_octets : Addr} {od24 an24 : Option Addr} {sl24 : Array (Option Value)} {oc24 kV24 dc24 pm24 cd24 ct24 : Value}
    {f_law_value : Addr} {od25 an25 : Option Addr} {sl25 : Array (Option Value)} {oc25 kV25 dc25 pm25 cd25 ct25 : Value}
    {f_law_kind : Addr} {od26 an26 : Option Addr} {sl26 : Array (Option Value)} {oc26 kV26 dc26 pm26 cd26 ct26 : Value}
    {f_law_told : Addr} {od27 an27 : Option Addr} {sl27 : Array (Option Value)} {oc27 kV27 dc27 pm27 cd27 ct27 : Value}
    {f_law_changed : Addr} {od28 an28 : Option Addr} {sl28 : Array (Option Value)} {oc28 kV28 dc28 pm28 cd28 ct28 : Value}
    {f_law_four : Addr} {od29 an29 : Option Addr} {sl29 : Array (Option Value)} {oc29 kV29 dc29 pm29 cd29 ct29 : Value}
    {f_law_case : Addr} {od30 an30 : Option Addr} {sl30 : Array (Option Value)} {oc30 kV30 dc30 pm30 cd30 ct30 : Value}
    {flaw : Addr} {od31 an31 : Option Addr} {sl31 : Array (Option Value)} {oc31 kV31 dc31 pm31 cd31 ct31 : Value}
    {tGREATEST_NUMBER : Tok}
    {tLEAST_INT : Tok}
    {tGREATEST_INT : Tok}
    {tLONGEST_TEXT : Tok}
    {tMOST_OCTETS : Tok}
    {t_FIRST_CODE : Tok}
    {t_LAST_CODE : Tok}
    {t_PERCENT_CODE : Tok}
    {t_CHARACTERS : Tok}
    {CBadMessage : Addr}
    {CBadArguments : Addr}
    {CBadLength : Addr}
    {CBadText : Addr}
    {CBadPadding : Addr}
    {CObjectMissing : Addr}
    (a1 : PySem.W.nsIn K mainGlobals "is_integer" = some (some (.ref fis_integer)))
    (l1 : K.lookup fis_integer = some ⟨oc1, od1, .func (PySem.W.fnOf "is_integer" "is_integer" (defArgs s_is_integer) (defBody s_is_integer) (defScope s_is_integer) .none kV1 dc1 pm1 an1 cd1 ct1), sl1⟩) (c1 : PySem.W.codeIn K cd1 "is_integer" = true) (k1 : PySem.W.keepIn K (.ref fis_integer) = true)
    (a2 : PySem.W.nsIn K mainGlobals "is_text" = some (some (.ref fis_text)))
    (l2 : K.lookup fis_text = some ⟨oc2, od2, .func (PySem.W.fnOf "is_text" "is_text" (defArgs s_is_text) (defBody s_is_text) (defScope s_is_text) .none kV2 dc2 pm2 an2 cd2 ct2), sl2⟩) (c2 : PySem.W.codeIn K cd2 "is_text" = true) (k2 : PySem.W.keepIn K (.ref fis_text) = true)
    (a3 : PySem.W.nsIn K mainGlobals "number_octets" = some (some (.ref fnumber_octets)))
    (l3 : K.lookup fnumber_octets = some ⟨oc3, od3, .func (PySem.W.fnOf "number_octets" "number_octets" (defArgs s_number_octets) (defBody s_number_octets) (defScope s_number_octets) .none kV3 dc3 pm3 an3 cd3 ct3), sl3⟩) (c3 : PySem.W.codeIn K cd3 "number_octets" = true) (k3 : PySem.W.keepIn K (.ref fnumber_octets) = true)
    (a4 : PySem.W.nsIn K mainGlobals "number_at" = some (some (.ref fnumber_at)))
    (l4 : K.lookup fnumber_at = some ⟨oc4, od4, .func (PySem.W.fnOf "number_at" "number_at" (defArgs s_number_at) (defBody s_number_at) (defScope s_number_at) .none kV4 dc4 pm4 an4 cd4 ct4), sl4⟩) (c4 : PySem.W.codeIn K cd4 "number_at" = true) (k4 : PySem.W.keepIn K (.ref fnumber_at) = true)
    (a5 : PySem.W.nsIn K mainGlobals "field_octets" = some (some (.ref ffield_octets)))
    (l5 : K.lookup ffield_octets = some ⟨oc5, od5, .func (PySem.W.fnOf "field_octets" "field_octets" (defArgs s_field_octets) (defBody s_field_octets) (defScope s_field_octets) .none kV5 dc5 pm5 an5 cd5 ct5), sl5⟩) (c5 : PySem.W.codeIn K cd5 "field_octets" = true) (k5 : PySem.W.keepIn K (.ref ffield_octets) = true)
    (a6 : PySem.W.nsIn K mainGlobals "read_arguments" = some (some (.ref fread_arguments)))
    (l6 : K.lookup fread_arguments = some ⟨oc6, od6, .func (PySem.W.fnOf "read_arguments" "read_arguments" (defArgs s_read_arguments) (defBody s_read_arguments) (defScope s_read_arguments) .none kV6 dc6 pm6 an6 cd6 ct6), sl6⟩) (c6 : PySem.W.codeIn K cd6 "read_arguments" = true) (k6 : PySem.W.keepIn K (.ref fread_arguments) = true)
    (a7 : PySem.W.nsIn K mainGlobals "_is_code" = some (some (.ref f_is_code)))
    (l7 : K.lookup f_is_code = some ⟨oc7, od7, .func (PySem.W.fnOf "_is_code" "_is_code" (defArgs s__is_code) (defBody s__is_code) (defScope s__is_code) .none kV7 dc7 pm7 an7 cd7 ct7), sl7⟩) (c7 : PySem.W.codeIn K cd7 "_is_code" = true) (k7 : PySem.W.keepIn K (.ref f_is_code) = true)
    (a8 : PySem.W.nsIn K mainGlobals "_is_of" = some (some (.ref f_is_of)))
    (l8 : K.lookup f_is_of = some ⟨oc8, od8, .func (PySem.W.fnOf "_is_of" "_is_of" (defArgs s__is_of) (defBody s__is_of) (defScope s__is_of) .none kV8 dc8 pm8 an8 cd8 ct8), sl8⟩) (c8 : PySem.W.codeIn K cd8 "_is_of" = true) (k8 : PySem.W.keepIn K (.ref f_is_of) = true)
    (a9 : PySem.W.nsIn K mainGlobals "_are_octets" = some (some (.ref f_are_octets)))
    (l9 : K.lookup f_are_octets = some ⟨oc9, od9, .func (PySem.W.fnOf "_are_octets" "_are_octets" (defArgs s__are_octets) (defBody s__are_octets) (defScope s__are_octets) .none kV9 dc9 pm9 an9 cd9 ct9), sl9⟩) (c9 : PySem.W.codeIn K cd9 "_are_octets" = true) (k9 : PySem.W.keepIn K (.ref f_are_octets) = true)
    (a10 : PySem.W.nsIn K mainGlobals "_is_bound" = some (some (.ref f_is_bound)))
    (l10 : K.lookup f_is_bound = some ⟨oc10, od10, .func (PySem.W.fnOf "_is_bound" "_is_bound" (defArgs s__is_bound) (defBody s__is_bound) (defScope s__is_bound) .none kV10 dc10 pm10 an10 cd10 ct10), sl10⟩) (c10 : PySem.W.codeIn K cd10 "_is_bound" = true) (k10 : PySem.W.keepIn K (.ref f_is_bound) = true)
    (a11 : PySem.W.nsIn K mainGlobals "_text_octets" = some (some (.ref f_text_octets)))
    (l11 : K.lookup f_text_octets = some ⟨oc11, od11, .func (PySem.W.fnOf "_text_octets" "_text_octets" (defArgs s__text_octets) (defBody s__text_octets) (defScope s__text_octets) .none kV11 dc11 pm11 an11 cd11 ct11), sl11⟩) (c11 : PySem.W.codeIn K cd11 "_text_octets" = true) (k11 : PySem.W.keepIn K (.ref f_text_octets) = true)
    (a12 : PySem.W.nsIn K mainGlobals "_padded" = some (some (.ref f_padded)))
    (l12 : K.lookup f_padded = some ⟨oc12, od12, .func (PySem.W.fnOf "_padded" "_padded" (defArgs s__padded) (defBody s__padded) (defScope s__padded) .none kV12 dc12 pm12 an12 cd12 ct12), sl12⟩) (c12 : PySem.W.codeIn K cd12 "_padded" = true) (k12 : PySem.W.keepIn K (.ref f_padded) = true)
    (a13 : PySem.W.nsIn K mainGlobals "_read" = some (some (.ref f_read)))
    (l13 : K.lookup f_read = some ⟨oc13, od13, .func (PySem.W.fnOf "_read" "_read" (defArgs s__read) (defBody s__read) (defScope s__read) .none kV13 dc13 pm13 an13 cd13 ct13), sl13⟩) (c13 : PySem.W.codeIn K cd13 "_read" = true) (k13 : PySem.W.keepIn K (.ref f_read) = true)
    (a14 : PySem.W.nsIn K mainGlobals "_read_number" = some (some (.ref f_read_number)))
    (l14 : K.lookup f_read_number = some ⟨oc14, od14, .func (PySem.W.fnOf "_read_number" "_read_number" (defArgs s__read_number) (defBody s__read_number) (defScope s__read_number) .none kV14 dc14 pm14 an14 cd14 ct14), sl14⟩) (c14 : PySem.W.codeIn K cd14 "_read_number" = true) (k14 : PySem.W.keepIn K (.ref f_read_number) = true)
    (a15 : PySem.W.nsIn K mainGlobals "_read_named" = some (some (.ref f_read_named)))
    (l15 : K.lookup f_read_named = some ⟨oc15, od15, .func (PySem.W.fnOf "_read_named" "_read_named" (defArgs s__read_named) (defBody s__read_named) (defScope s__read_named) .none kV15 dc15 pm15 an15 cd15 ct15), sl15⟩) (c15 : PySem.W.codeIn K cd15 "_read_named" = true) (k15 : PySem.W.keepIn K (.ref f_read_named) = true)
    (a16 : PySem.W.nsIn K mainGlobals "_read_text" = some (some (.ref f_read_text)))
    (l16 : K.lookup f_read_text = some ⟨oc16, od16, .func (PySem.W.fnOf "_read_text" "_read_text" (defArgs s__read_text) (defBody s__read_text) (defScope s__read_text) .none kV16 dc16 pm16 an16 cd16 ct16), sl16⟩) (c16 : PySem.W.codeIn K cd16 "_read_text" = true) (k16 : PySem.W.keepIn K (.ref f_read_text) = true)
    (a17 : PySem.W.nsIn K mainGlobals "_read_octets" = some (some (.ref f_read_octets)))
    (l17 : K.lookup f_read_octets = some ⟨oc17, od17, .func (PySem.W.fnOf "_read_octets" "_read_octets" (defArgs s__read_octets) (defBody s__read_octets) (defScope s__read_octets) .none kV17 dc17 pm17 an17 cd17 ct17), sl17⟩) (c17 : PySem.W.codeIn K cd17 "_read_octets" = true) (k17 : PySem.W.keepIn K (.ref f_read_octets) = true)
    (a18 : PySem.W.nsIn K mainGlobals "_demand" = some (some (.ref f_demand)))
    (l18 : K.lookup f_demand = some ⟨oc18, od18, .func (PySem.W.fnOf "_demand" "_demand" (defArgs s__demand) (defBody s__demand) (defScope s__demand) .none kV18 dc18 pm18 an18 cd18 ct18), sl18⟩) (c18 : PySem.W.codeIn K cd18 "_demand" = true) (k18 : PySem.W.keepIn K (.ref f_demand) = true)
    (a19 : PySem.W.nsIn K mainGlobals "_behind_padding" = some (some (.ref f_behind_padding)))
    (l19 : K.lookup f_behind_padding = some ⟨oc19, od19, .func (PySem.W.fnOf "_behind_padding" "_behind_padding" (defArgs s__behind_padding) (defBody s__behind_padding) (defScope s__behind_padding) .none kV19 dc19 pm19 an19 cd19 ct19), sl19⟩) (c19 : PySem.W.codeIn K cd19 "_behind_padding" = true) (k19 : PySem.W.keepIn K (.ref f_behind_padding) = true)
    (a20 : PySem.W.nsIn K mainGlobals "_law_cell" = some (some (.ref f_law_cell)))
    (l20 : K.lookup f_law_cell = some ⟨oc20, od20, .func (PySem.W.fnOf "_law_cell" "_law_cell" (defArgs s__law_cell) (defBody s__law_cell) (defScope s__law_cell) .none kV20 dc20 pm20 an20 cd20 ct20), sl20⟩) (c20 : PySem.W.codeIn K cd20 "_law_cell" = true) (k20 : PySem.W.keepIn K (.ref f_law_cell) = true)
    (a21 : PySem.W.nsIn K mainGlobals "_law_row" = some (some (.ref f_law_row)))
    (l21 : K.lookup f_law_row = some ⟨oc21, od21, .func (PySem.W.fnOf "_law_row" "_law_row" (defArgs s__law_row) (defBody s__law_row) (defScope s__law_row) .none kV21 dc21 pm21 an21 cd21 ct21), sl21⟩) (c21 : PySem.W.codeIn K cd21 "_law_row" = true) (k21 : PySem.W.keepIn K (.ref f_law_row) = true)
    (a22 : PySem.W.nsIn K mainGlobals "_law_sign" = some (some (.ref f_law_sign)))
    (l22 : K.lookup f_law_sign = some ⟨oc22, od22, .func (PySem.W.fnOf "_law_sign" "_law_sign" (defArgs s__law_sign) (defBody s__law_sign) (defScope s__law_sign) .none kV22 dc22 pm22 an22 cd22 ct22), sl22⟩) (c22 : PySem.W.codeIn K cd22 "_law_sign" = true) (k22 : PySem.W.keepIn K (.ref f_law_sign) = true)
    (a23 : PySem.W.nsIn K mainGlobals "_law_text" = some (some (.ref f_law_text)))
    (l23 : K.lookup f_law_text = some ⟨oc23, od23, .func (PySem.W.fnOf "_law_text" "_law_text" (defArgs s__law_text) (defBody s__law_text) (defScope s__law_text) .none kV23 dc23 pm23 an23 cd23 ct23), sl23⟩) (c23 : PySem.W.codeIn K cd23 "_law_text" = true) (k23 : PySem.W.keepIn K (.ref f_law_text) = true)
    (a24 : PySem.W.nsIn K mainGlobals "_law_octets" = some (some (.ref f_law_octets)))
    (l24 : K.lookup f_law_octets = some ⟨oc24, od24, .func (PySem.W.fnOf "_law_octets" "_law_octets" (defArgs s__law_octets) (defBody s__law_octets) (defScope s__law_octets) .none kV24 dc24 pm24 an24 cd24 ct24), sl24⟩) (c24 : PySem.W.codeIn K cd24 "_law_octets" = true) (k24 : PySem.W.keepIn K (.ref f_law_octets) = true)
    (a25 : PySem.W.nsIn K mainGlobals "_law_value" = some (some (.ref f_law_value)))
    (l25 : K.lookup f_law_value = some ⟨oc25, od25, .func (PySem.W.fnOf "_law_value" "_law_value" (defArgs s__law_value) (defBody s__law_value) (defScope s__law_value) .none kV25 dc25 pm25 an25 cd25 ct25), sl25⟩) (c25 : PySem.W.codeIn K cd25 "_law_value" = true) (k25 : PySem.W.keepIn K (.ref f_law_value) = true)
    (a26 : PySem.W.nsIn K mainGlobals "_law_kind" = some (some (.ref f_law_kind)))
    (l26 : K.lookup f_law_kind = some ⟨oc26, od26, .func (PySem.W.fnOf "_law_kind" "_law_kind" (defArgs s__law_kind) (defBody s__law_kind) (defScope s__law_kind) .none kV26 dc26 pm26 an26 cd26 ct26), sl26⟩) (c26 : PySem.W.codeIn K cd26 "_law_kind" = true) (k26 : PySem.W.keepIn K (.ref f_law_kind) = true)
    (a27 : PySem.W.nsIn K mainGlobals "_law_told" = some (some (.ref f_law_told)))
    (l27 : K.lookup f_law_told = some ⟨oc27, od27, .func (PySem.W.fnOf "_law_told" "_law_told" (defArgs s__law_told) (defBody s__law_told) (defScope s__law_told) .none kV27 dc27 pm27 an27 cd27 ct27), sl27⟩) (c27 : PySem.W.codeIn K cd27 "_law_told" = true) (k27 : PySem.W.keepIn K (.ref f_law_told) = true)
    (a28 : PySem.W.nsIn K mainGlobals "_law_changed" = some (some (.ref f_law_changed)))
    (l28 : K.lookup f_law_changed = some ⟨oc28, od28, .func (PySem.W.fnOf "_law_changed" "_law_changed" (defArgs s__law_changed) (defBody s__law_changed) (defScope s__law_changed) .none kV28 dc28 pm28 an28 cd28 ct28), sl28⟩) (c28 : PySem.W.codeIn K cd28 "_law_changed" = true) (k28 : PySem.W.keepIn K (.ref f_law_changed) = true)
    (a29 : PySem.W.nsIn K mainGlobals "_law_four" = some (some (.ref f_law_four)))
    (l29 : K.lookup f_law_four = some ⟨oc29, od29, .func (PySem.W.fnOf "_law_four" "_law_four" (defArgs s__law_four) (defBody s__law_four) (defScope s__law_four) .none kV29 dc29 pm29 an29 cd29 ct29), sl29⟩) (c29 : PySem.W.codeIn K cd29 "_law_four" = true) (k29 : PySem.W.keepIn K (.ref f_law_four) = true)
    (a30 : PySem.W.nsIn K mainGlobals "_law_case" = some (some (.ref f_law_case)))
    (l30 : K.lookup f_law_case = some ⟨oc30, od30, .func (PySem.W.fnOf "_law_case" "_law_case" (defArgs s__law_case) (defBody s__law_case) (defScope s__law_case) .none kV30 dc30 pm30 an30 cd30 ct30), sl30⟩) (c30 : PySem.W.codeIn K cd30 "_law_case" = true) (k30 : PySem.W.keepIn K (.ref f_law_case) = true)
    (a31 : PySem.W.nsIn K mainGlobals "law" = some (some (.ref flaw)))
    (l31 : K.lookup flaw = some ⟨oc31, od31, .func (PySem.W.fnOf "law" "law" (defArgs s_law) (defBody s_law) (defScope s_law) .none kV31 dc31 pm31 an31 cd31 ct31), sl31⟩) (c31 : PySem.W.codeIn K cd31 "law" = true) (k31 : PySem.W.keepIn K (.ref flaw) = true)
    (z_all : PySem.W.nsIn K mainGlobals "all" = some none)
    (z_any : PySem.W.nsIn K mainGlobals "any" = some none)
    (z_bool : PySem.W.nsIn K mainGlobals "bool" = some none)
    (z_int : PySem.W.nsIn K mainGlobals "int" = some none)
    (z_isinstance : PySem.W.nsIn K mainGlobals "isinstance" = some none)
    (z_len : PySem.W.nsIn K mainGlobals "len" = some none)
    (z_list : PySem.W.nsIn K mainGlobals "list" = some none)
    (z_max : PySem.W.nsIn K mainGlobals "max" = some none)
    (z_min : PySem.W.nsIn K mainGlobals "min" = some none)
    (z_ord : PySem.W.nsIn K mainGlobals "ord" = some none)
    (z_range : PySem.W.nsIn K mainGlobals "range" = some none)
    (z_str : PySem.W.nsIn K mainGlobals "str" = some none)
    (z_sum : PySem.W.nsIn K mainGlobals "sum" = some none)
    (z_tuple : PySem.W.nsIn K mainGlobals "tuple" = some none)
    (q_GREATEST_NUMBER : PySem.W.nsIn K mainGlobals "GREATEST_NUMBER" = some (some (.int (4294967295) tGREATEST_NUMBER)))
    (q_LEAST_INT : PySem.W.nsIn K mainGlobals "LEAST_INT" = some (some (.int (-2147483648) tLEAST_INT)))
    (q_GREATEST_INT : PySem.W.nsIn K mainGlobals "GREATEST_INT" = some (some (.int (2147483647) tGREATEST_INT)))
    (q_LONGEST_TEXT : PySem.W.nsIn K mainGlobals "LONGEST_TEXT" = some (some (.int (1000) tLONGEST_TEXT)))
    (q_MOST_OCTETS : PySem.W.nsIn K mainGlobals "MOST_OCTETS" = some (some (.int (16384) tMOST_OCTETS)))
    (q__FIRST_CODE : PySem.W.nsIn K mainGlobals "_FIRST_CODE" = some (some (.int (32) t_FIRST_CODE)))
    (q__LAST_CODE : PySem.W.nsIn K mainGlobals "_LAST_CODE" = some (some (.int (126) t_LAST_CODE)))
    (q__PERCENT_CODE : PySem.W.nsIn K mainGlobals "_PERCENT_CODE" = some (some (.int (37) t_PERCENT_CODE)))
    (q__CHARACTERS : PySem.W.nsIn K mainGlobals "_CHARACTERS" = some (some (.str " !\"#$ &'()*+,-./0123456789:;<=>?@ABCDEFGHIJKLMNOPQRSTUVWXYZ[\\]^_`abcdefghijklmnopqrstuvwxyz{|}~" t_CHARACTERS)))
    (uBadMessage : PySem.W.nsIn K mainGlobals "BadMessage" = some (some (.ref CBadMessage))) (xBadMessage : PySem.W.excIn K CBadMessage [.type "ValueError", .type "Exception", .type "BaseException", .type "object"] "ValueError.__new__" = true) (keBadMessage : PySem.W.keepIn K (.ref CBadMessage) = true) (bxBadMessage : PySem.W.subIn K (.ref CBadMessage) (.type "BaseException") = some true) (txBadMessage : PySem.W.typeIn K (.ref CBadMessage) = some (.type "type")) (ixBadMessage : PySem.W.isClsIn K CBadMessage = true) (sxBadMessage : PySem.W.subIn K (.ref CBadMessage) (.ref CBadMessage) = some true)
    (uBadArguments : PySem.W.nsIn K mainGlobals "BadArguments" = some (some (.ref CBadArguments))) (xBadArguments : PySem.W.excIn K CBadArguments [.type "ValueError", .type "Exception", .type "BaseException", .type "object"] "ValueError.__new__" = true) (keBadArguments : PySem.W.keepIn K (.ref CBadArguments) = true) (bxBadArguments : PySem.W.subIn K (.ref CBadArguments) (.type "BaseException") = some true) (txBadArguments : PySem.W.typeIn K (.ref CBadArguments) = some (.type "type")) (ixBadArguments : PySem.W.isClsIn K CBadArguments = true) (sxBadArguments : PySem.W.subIn K (.ref CBadArguments) (.ref CBadArguments) = some true)
    (uBadLength : PySem.W.nsIn K mainGlobals "BadLength" = some (some (.ref CBadLength))) (xBadLength : PySem.W.excIn K CBadLength [.type "ValueError", .type "Exception", .type "BaseException", .type "object"] "ValueError.__new__" = true) (keBadLength : PySem.W.keepIn K (.ref CBadLength) = true) (bxBadLength : PySem.W.subIn K (.ref CBadLength) (.type "BaseException") = some true) (txBadLength : PySem.W.typeIn K (.ref CBadLength) = some (.type "type")) (ixBadLength : PySem.W.isClsIn K CBadLength = true) (sxBadLength : PySem.W.subIn K (.ref CBadLength) (.ref CBadLength) = some true)
    (uBadText : PySem.W.nsIn K mainGlobals "BadText" = some (some (.ref CBadText))) (xBadText : PySem.W.excIn K CBadText [.type "ValueError", .type "Exception", .type "BaseException", .type "object"] "ValueError.__new__" = true) (keBadText : PySem.W.keepIn K (.ref CBadText) = true) (bxBadText : PySem.W.subIn K (.ref CBadText) (.type "BaseException") = some true) (txBadText : PySem.W.typeIn K (.ref CBadText) = some (.type "type")) (ixBadText : PySem.W.isClsIn K CBadText = true) (sxBadText : PySem.W.subIn K (.ref CBadText) (.ref CBadText) = some true)
    (uBadPadding : PySem.W.nsIn K mainGlobals "BadPadding" = some (some (.ref CBadPadding))) (xBadPadding : PySem.W.excIn K CBadPadding [.type "ValueError", .type "Exception", .type "BaseException", .type "object"] "ValueError.__new__" = true) (keBadPadding : PySem.W.keepIn K (.ref CBadPadding) = true) (bxBadPadding : PySem.W.subIn K (.ref CBadPadding) (.type "BaseException") = some true) (txBadPadding : PySem.W.typeIn K (.ref CBadPadding) = some (.type "type")) (ixBadPadding : PySem.W.isClsIn K CBadPadding = true) (sxBadPadding : PySem.W.subIn K (.ref CBadPadding) (.ref CBadPadding) = some true)
    (uObjectMissing : PySem.W.nsIn K mainGlobals "ObjectMissing" = some (some (.ref CObjectMissing))) (xObjectMissing : PySem.W.excIn K CObjectMissing [.type "ValueError", .type "Exception", .type "BaseException", .type "object"] "ValueError.__new__" = true) (keObjectMissing : PySem.W.keepIn K (.ref CObjectMissing) = true) (bxObjectMissing : PySem.W.subIn K (.ref CObjectMissing) (.type "BaseException") = some true) (txObjectMissing : PySem.W.typeIn K (.ref CObjectMissing) = some (.type "type")) (ixObjectMissing : PySem.W.isClsIn K CObjectMissing = true) (sxObjectMissing : PySem.W.subIn K (.ref CObjectMissing) (.ref CObjectMissing) = some true)
    (sgoc : PySem.W.specialIn K (.builtin "object.__class__") "__get__" = some (some (.builtin "getset_descriptor.__get__"))) (tkoc : PySem.W.takesIn K (.builtin "object.__class__") = some true)
    (gaBadLength : PySem.W.findIn K (.ref CBadLength) "__getattribute__" = some (some (.builtin "BaseException.__getattribute__"))) (gtBadLength : PySem.W.findIn K (.ref CBadLength) "__getattr__" = some none) (hxBadLength : PySem.W.hasDictIn K CBadLength = true) (fcBadLength : PySem.W.findIn K (.ref CBadLength) "__class__" = some (some (.builtin "object.__class__"))) (moBadLength : PySem.W.mroIn K CBadLength (.type "object") = some true)
    (kitBadLength_BadLength : PySem.W.kitOne K (.ref CBadLength) (.ref CBadLength) = some true)
    (kitBadLength_BadText : PySem.W.kitOne K (.ref CBadLength) (.ref CBadText) = some false)
    (kitBadLength_BadPadding : PySem.W.kitOne K (.ref CBadLength) (.ref CBadPadding) = some false)
    (kitBadLength_ObjectMissing : PySem.W.kitOne K (.ref CBadLength) (.ref CObjectMissing) = some false)
    (gaBadText : PySem.W.findIn K (.ref CBadText) "__getattribute__" = some (some (.builtin "BaseException.__getattribute__"))) (gtBadText : PySem.W.findIn K (.ref CBadText) "__getattr__" = some none) (hxBadText : PySem.W.hasDictIn K CBadText = true) (fcBadText : PySem.W.findIn K (.ref CBadText) "__class__" = some (some (.builtin "object.__class__"))) (moBadText : PySem.W.mroIn K CBadText (.type "object") = some true)
    (kitBadText_BadLength : PySem.W.kitOne K (.ref CBadText) (.ref CBadLength) = some false)
    (kitBadText_BadText : PySem.W.kitOne K (.ref CBadText) (.ref CBadText) = some true)
    (kitBadText_BadPadding : PySem.W.kitOne K (.ref CBadText) (.ref CBadPadding) = some false)
    (kitBadText_ObjectMissing : PySem.W.kitOne K (.ref CBadText) (.ref CObjectMissing) = some false)
    (gaBadPadding : PySem.W.findIn K (.ref CBadPadding) "__getattribute__" = some (some (.builtin "BaseException.__getattribute__"))) (gtBadPadding : PySem.W.findIn K (.ref CBadPadding) "__getattr__" = some none) (hxBadPadding : PySem.W.hasDictIn K CBadPadding = true) (fcBadPadding : PySem.W.findIn K (.ref CBadPadding) "__class__" = some (some (.builtin "object.__class__"))) (moBadPadding : PySem.W.mroIn K CBadPadding (.type "object") = some true)
    (kitBadPadding_BadLength : PySem.W.kitOne K (.ref CBadPadding) (.ref CBadLength) = some false)
    (kitBadPadding_BadText : PySem.W.kitOne K (.ref CBadPadding) (.ref CBadText) = some false)
    (kitBadPadding_BadPadding : PySem.W.kitOne K (.ref CBadPadding) (.ref CBadPadding) = some true)
    (kitBadPadding_ObjectMissing : PySem.W.kitOne K (.ref CBadPadding) (.ref CObjectMissing) = some false)
    (gaObjectMissing : PySem.W.findIn K (.ref CObjectMissing) "__getattribute__" = some (some (.builtin "BaseException.__getattribute__"))) (gtObjectMissing : PySem.W.findIn K (.ref CObjectMissing) "__getattr__" = some none) (hxObjectMissing : PySem.W.hasDictIn K CObjectMissing = true) (fcObjectMissing : PySem.W.findIn K (.ref CObjectMissing) "__class__" = some (some (.builtin "object.__class__"))) (moObjectMissing : PySem.W.mroIn K CObjectMissing (.type "object") = some true)
    (kitObjectMissing_BadLength : PySem.W.kitOne K (.ref CObjectMissing) (.ref CBadLength) = some false)
    (kitObjectMissing_BadText : PySem.W.kitOne K (.ref CObjectMissing) (.ref CBadText) = some false)
    (kitObjectMissing_BadPadding : PySem.W.kitOne K (.ref CObjectMissing) (.ref CBadPadding) = some false)
    (kitObjectMissing_ObjectMissing : PySem.W.kitOne K (.ref CObjectMissing) (.ref CObjectMissing) = some true)
    (subBadMessage_BadArguments : PySem.W.subIn K (.ref CBadMessage) (.ref CBadArguments) = some false)
    (subBadMessage_BadLength : PySem.W.subIn K (.ref CBadMessage) (.ref CBadLength) = some false)
    (subBadMessage_BadText : PySem.W.subIn K (.ref CBadMessage) (.ref CBadText) = some false)
    (subBadMessage_BadPadding : PySem.W.subIn K (.ref CBadMessage) (.ref CBadPadding) = some false)
    (subBadMessage_ObjectMissing : PySem.W.subIn K (.ref CBadMessage) (.ref CObjectMissing) = some false)
    (subBadArguments_BadMessage : PySem.W.subIn K (.ref CBadArguments) (.ref CBadMessage) = some false)
    (subBadArguments_BadLength : PySem.W.subIn K (.ref CBadArguments) (.ref CBadLength) = some false)
    (subBadArguments_BadText : PySem.W.subIn K (.ref CBadArguments) (.ref CBadText) = some false)
    (subBadArguments_BadPadding : PySem.W.subIn K (.ref CBadArguments) (.ref CBadPadding) = some false)
    (subBadArguments_ObjectMissing : PySem.W.subIn K (.ref CBadArguments) (.ref CObjectMissing) = some false)
    (subBadLength_BadMessage : PySem.W.subIn K (.ref CBadLength) (.ref CBadMessage) = some false)
    (subBadLength_BadArguments : PySem.W.subIn K (.ref CBadLength) (.ref CBadArguments) = some true)
    (subBadLength_BadText : PySem.W.subIn K (.ref CBadLength) (.ref CBadText) = some false)
    (subBadLength_BadPadding : PySem.W.subIn K (.ref CBadLength) (.ref CBadPadding) = some false)
    (subBadLength_ObjectMissing : PySem.W.subIn K (.ref CBadLength) (.ref CObjectMissing) = some false)
    (subBadText_BadMessage : PySem.W.subIn K (.ref CBadText) (.ref CBadMessage) = some false)
    (subBadText_BadArguments : PySem.W.subIn K (.ref CBadText) (.ref CBadArguments) = some true)
    (subBadText_BadLength : PySem.W.subIn K (.ref CBadText) (.ref CBadLength) = some false)
    (subBadText_BadPadding : PySem.W.subIn K (.ref CBadText) (.ref CBadPadding) = some false)
    (subBadText_ObjectMissing : PySem.W.subIn K (.ref CBadText) (.ref CObjectMissing) = some false)
    (subBadPadding_BadMessage : PySem.W.subIn K (.ref CBadPadding) (.ref CBadMessage) = some false)
    (subBadPadding_BadArguments : PySem.W.subIn K (.ref CBadPadding) (.ref CBadArguments) = some true)
    (subBadPadding_BadLength : PySem.W.subIn K (.ref CBadPadding) (.ref CBadLength) = some false)
    (subBadPadding_BadText : PySem.W.subIn K (.ref CBadPadding) (.ref CBadText) = some false)
    (subBadPadding_ObjectMissing : PySem.W.subIn K (.ref CBadPadding) (.ref CObjectMissing) = some false)
    (subObjectMissing_BadMessage : PySem.W.subIn K (.ref CObjectMissing) (.ref CBadMessage) = some false)
    (subObjectMissing_BadArguments : PySem.W.subIn K (.ref CObjectMissing) (.ref CBadArguments) = some true)
    (subObjectMissing_BadLength : PySem.W.subIn K (.ref CObjectMissing) (.ref CBadLength) = some false)
    (subObjectMissing_BadText : PySem.W.subIn K (.ref CObjectMissing) (.ref CBadText) = some false)
    (subObjectMissing_BadPadding : PySem.W.subIn K (.ref CObjectMissing) (.ref CBadPadding) = some false)
    : ∃ A : Adr, A.flaw = fa ∧ Txt K mg A ∧ (∀ (s : Shared) (v : Value), BindsTo s A.dlaw ⟨[v], []⟩ [("script", v)]) := by
  have e := hfa.symm.trans (PySem.W.mg_of X G a31)
  cases e
  have F1 := fun_mk (st := s_is_integer) l1 c1 k1
  have b1 := F1.binds (ps := ["value", "least", "greatest"]) fun _ _ _ _ _ _ us hl => match us, hl with | [_, _, _], _ => rfl
  have F2 := fun_mk (st := s_is_text) l2 c2 k2
  have b2 := F2.binds (ps := ["value"]) fun _ _ _ _ _ _ us hl => match us, hl with | [_], _ => rfl
  have F3 := fun_mk (st := s_number_octets) l3 c3 k3
  have b3 := F3.binds (ps := ["number", "count"]) fun _ _ _ _ _ _ us hl => match us, hl with | [_, _], _ => rfl
  have F4 := fun_mk (st := s_number_at) l4 c4 k4
  have b4 := F4.binds (ps := ["octets", "at", "count"]) fun _ _ _ _ _ _ us hl => match us, hl with | [_, _, _], _ => rfl
  have F5 := fun_mk (st := s_field_octets) l5 c5 k5
  have b5 := F5.binds (ps := ["kind", "value"]) fun _ _ _ _ _ _ us hl => match us, hl with | [_, _], _ => rfl
  have F6 := fun_mk (st := s_read_arguments) l6 c6 k6
  have b6 := F6.binds (ps := ["kinds", "octets"]) fun _ _ _ _ _ _ us hl => match us, hl with | [_, _], _ => rfl
  have F7 := fun_mk (st := s__is_code) l7 c7 k7
  have b7 := F7.binds (ps := ["code"]) fun _ _ _ _ _ _ us hl => match us, hl with | [_], _ => rfl
  have F8 := fun_mk (st := s__is_of) l8 c8 k8
  have b8 := F8.binds (ps := ["kind", "value"]) fun _ _ _ _ _ _ us hl => match us, hl with | [_, _], _ => rfl
  have F9 := fun_mk (st := s__are_octets) l9 c9 k9
  have b9 := F9.binds (ps := ["value"]) fun _ _ _ _ _ _ us hl => match us, hl with | [_], _ => rfl
  have F10 := fun_mk (st := s__is_bound) l10 c10 k10
  have b10 := F10.binds (ps := ["value"]) fun _ _ _ _ _ _ us hl => match us, hl with | [_], _ => rfl
  have F11 := fun_mk (st := s__text_octets) l11 c11 k11
  have b11 := F11.binds (ps := ["text"]) fun _ _ _ _ _ _ us hl => match us, hl with | [_], _ => rfl
  have F12 := fun_mk (st := s__padded) l12 c12 k12
  have b12 := F12.binds (ps := ["octets"]) fun _ _ _ _ _ _ us hl => match us, hl with | [_], _ => rfl
  have F13 := fun_mk (st := s__read) l13 c13 k13
  have b13 := F13.binds (ps := ["kind", "octets", "at"]) fun _ _ _ _ _ _ us hl => match us, hl with | [_, _, _], _ => rfl
  have F14 := fun_mk (st := s__read_number) l14 c14 k14
  have b14 := F14.binds (ps := ["octets", "at"]) fun _ _ _ _ _ _ us hl => match us, hl with | [_, _], _ => rfl
  have F15 := fun_mk (st := s__read_named) l15 c15 k15
  have b15 := F15.binds (ps := ["octets", "at"]) fun _ _ _ _ _ _ us hl => match us, hl with | [_, _], _ => rfl
  have F16 := fun_mk (st := s__read_text) l16 c16 k16
  have b16 := F16.binds (ps := ["octets", "at"]) fun _ _ _ _ _ _ us hl => match us, hl with | [_, _], _ => rfl
  have F17 := fun_mk (st := s__read_octets) l17 c17 k17
  have b17 := F17.binds (ps := ["octets", "at"]) fun _ _ _ _ _ _ us hl => match us, hl with | [_, _], _ => rfl
  have F18 := fun_mk (st := s__demand) l18 c18 k18
  have b18 := F18.binds (ps := ["octets", "end"]) fun _ _ _ _ _ _ us hl => match us, hl with | [_, _], _ => rfl
  have F19 := fun_mk (st := s__behind_padding) l19 c19 k19
  have b19 := F19.binds (ps := ["octets", "end"]) fun _ _ _ _ _ _ us hl => match us, hl with | [_, _], _ => rfl
  have F20 := fun_mk (st := s__law_cell) l20 c20 k20
  have b20 := F20.binds (ps := ["script", "k"]) fun _ _ _ _ _ _ us hl => match us, hl with | [_, _], _ => rfl
  have F21 := fun_mk (st := s__law_row) l21 c21 k21
  have b21 := F21.binds (ps := ["script", "k"]) fun _ _ _ _ _ _ us hl => match us, hl with | [_, _], _ => rfl
  have F22 := fun_mk (st := s__law_sign) l22 c22 k22
  have b22 := F22.binds (ps := ["digit"]) fun _ _ _ _ _ _ us hl => match us, hl with | [_], _ => rfl
  have F23 := fun_mk (st := s__law_text) l23 c23 k23
  have b23 := F23.binds (ps := ["row", "size"]) fun _ _ _ _ _ _ us hl => match us, hl with | [_, _], _ => rfl
  have F24 := fun_mk (st := s__law_octets) l24 c24 k24
  have b24 := F24.binds (ps := ["row", "size"]) fun _ _ _ _ _ _ us hl => match us, hl with | [_, _], _ => rfl
  have F25 := fun_mk (st := s__law_value) l25 c25 k25
  have b25 := F25.binds (ps := ["kind", "row"]) fun _ _ _ _ _ _ us hl => match us, hl with | [_, _], _ => rfl
  have F26 := fun_mk (st := s__law_kind) l26 c26 k26
  have b26 := F26.binds (ps := ["digit"]) fun _ _ _ _ _ _ us hl => match us, hl with | [_], _ => rfl
  have F27 := fun_mk (st := s__law_told) l27 c27 k27
  have b27 := F27.binds (ps := ["kinds", "octets"]) fun _ _ _ _ _ _ us hl => match us, hl with | [_, _], _ => rfl
  have F28 := fun_mk (st := s__law_changed) l28 c28 k28
  have b28 := F28.binds (ps := ["octets", "place", "octet"]) fun _ _ _ _ _ _ us hl => match us, hl with | [_, _, _], _ => rfl
  have F29 := fun_mk (st := s__law_four) l29 c29 k29
  have b29 := F29.binds (ps := ["value"]) fun _ _ _ _ _ _ us hl => match us, hl with | [_], _ => rfl
  have F30 := fun_mk (st := s__law_case) l30 c30 k30
  have b30 := F30.binds (ps := ["row", "before"]) fun _ _ _ _ _ _ us hl => match us, hl with | [_, _], _ => rfl
  have F31 := fun_mk (st := s_law) l31 c31 k31
  have b31 := F31.binds (ps := ["script"]) fun _ _ _ _ _ _ us hl => match us, hl with | [_], _ => rfl
  refine ⟨{ fis_integer := fis_integer, dis_integer := (PySem.W.fnOf "is_integer" "is_integer" (defArgs s_is_integer) (defBody s_is_integer) (defScope s_is_integer) .none kV1 dc1 pm1 an1 cd1 ct1), fis_text := fis_text, dis_text := (PySem.W.fnOf "is_text" "is_text" (defArgs s_is_text) (defBody s_is_text) (defScope s_is_text) .none kV2 dc2 pm2 an2 cd2 ct2), fnumber_octets := fnumber_octets, dnumber_octets := (PySem.W.fnOf "number_octets" "number_octets" (defArgs s_number_octets) (defBody s_number_octets) (defScope s_number_octets) .none kV3 dc3 pm3 an3 cd3 ct3), fnumber_at := fnumber_at, dnumber_at := (PySem.W.fnOf "number_at" "number_at" (defArgs s_number_at) (defBody s_number_at) (defScope s_number_at) .none kV4 dc4 pm4 an4 cd4 ct4), ffield_octets := ffield_octets, dfield_octets := (PySem.W.fnOf "field_octets" "field_octets" (defArgs s_field_octets) (defBody s_field_octets) (defScope s_field_octets) .none kV5 dc5 pm5 an5 cd5 ct5), fread_arguments := fread_arguments, dread_arguments := (PySem.W.fnOf "read_arguments" "read_arguments" (defArgs s_read_arguments) (defBody s_read_arguments) (defScope s_read_arguments) .none kV6 dc6 pm6 an6 cd6 ct6), f_is_code := f_is_code, d_is_code := (PySem.W.fnOf "_is_code" "_is_code" (defArgs s__is_code) (defBody s__is_code) (defScope s__is_code) .none kV7 dc7 pm7 an7 cd7 ct7), f_is_of := f_is_of, d_is_of := (PySem.W.fnOf "_is_of" "_is_of" (defArgs s__is_of) (defBody s__is_of) (defScope s__is_of) .none kV8 dc8 pm8 an8 cd8 ct8), f_are_octets := f_are_octets, d_are_octets := (PySem.W.fnOf "_are_octets" "_are_octets" (defArgs s__are_octets) (defBody s__are_octets) (defScope s__are_octets) .none kV9 dc9 pm9 an9 cd9 ct9), f_is_bound := f_is_bound, d_is_bound := (PySem.W.fnOf "_is_bound" "_is_bound" (defArgs s__is_bound) (defBody s__is_bound) (defScope s__is_bound) .none kV10 dc10 pm10 an10 cd10 ct10), f_text_octets := f_text_octets, d_text_octets := (PySem.W.fnOf "_text_octets" "_text_octets" (defArgs s__text_octets) (defBody s__text_octets) (defScope s__text_octets) .none kV11 dc11 pm11 an11 cd11 ct11), f_padded := f_padded, d_padded := (PySem.W.fnOf "_padded" "_padded" (defArgs s__padded) (defBody s__padded) (defScope s__padded) .none kV12 dc12 pm12 an12 cd12 ct12), f_read := f_read, d_read := (PySem.W.fnOf "_read" "_read" (defArgs s__read) (defBody s__read) (defScope s__read) .none kV13 dc13 pm13 an13 cd13 ct13), f_read_number := f_read_number, d_read_number := (PySem.W.fnOf "_read_number" "_read_number" (defArgs s__read_number) (defBody s__read_number) (defScope s__read_number) .none kV14 dc14 pm14 an14 cd14 ct14), f_read_named := f_read_named, d_read_named := (PySem.W.fnOf "_read_named" "_read_named" (defArgs s__read_named) (defBody s__read_named) (defScope s__read_named) .none kV15 dc15 pm15 an15 cd15 ct15), f_read_text := f_read_text, d_read_text := (PySem.W.fnOf "_read_text" "_read_text" (defArgs s__read_text) (defBody s__read_text) (defScope s__read_text) .none kV16 dc16 pm16 an16 cd16 ct16), f_read_octets := f_read_octets, d_read_octets := (PySem.W.fnOf "_read_octets" "_read_octets" (defArgs s__read_octets) (defBody s__read_octets) (defScope s__read_octets) .none kV17 dc17 pm17 an17 cd17 ct17), f_demand := f_demand, d_demand := (PySem.W.fnOf "_demand" "_demand" (defArgs s__demand) (defBody s__demand) (defScope s__demand) .none kV18 dc18 pm18 an18 cd18 ct18), f_behind_padding := f_behind_padding, d_behind_padding := (PySem.W.fnOf "_behind_padding" "_behind_padding" (defArgs s__behind_padding) (defBody s__behind_padding) (defScope s__behind_padding) .none kV19 dc19 pm19 an19 cd19 ct19), f_law_cell := f_law_cell, d_law_cell := (PySem.W.fnOf "_law_cell" "_law_cell" (defArgs s__law_cell) (defBody s__law_cell) (defScope s__law_cell) .none kV20 dc20 pm20 an20 cd20 ct20), f_law_row := f_law_row, d_law_row := (PySem.W.fnOf "_law_row" "_law_row" (defArgs s__law_row) (defBody s__law_row) (defScope s__law_row) .none kV21 dc21 pm21 an21 cd21 ct21), f_law_sign := f_law_sign, d_law_sign := (PySem.W.fnOf "_law_sign" "_law_sign" (defArgs s__law_sign) (defBody s__law_sign) (defScope s__law_sign) .none kV22 dc22 pm22 an22 cd22 ct22), f_law_text := f_law_text, d_law_text := (PySem.W.fnOf "_law_text" "_law_text" (defArgs s__law_text) (defBody s__law_text) (defScope s__law_text) .none kV23 dc23 pm23 an23 cd23 ct23), f_law_octets := f_law_octets, d_law_octets := (PySem.W.fnOf "_law_octets" "_law_octets" (defArgs s__law_octets) (defBody s__law_octets) (defScope s__law_octets) .none kV24 dc24 pm24 an24 cd24 ct24), f_law_value := f_law_value, d_law_value := (PySem.W.fnOf "_law_value" "_law_value" (defArgs s__law_value) (defBody s__law_value) (defScope s__law_value) .none kV25 dc25 pm25 an25 cd25 ct25), f_law_kind := f_law_kind, d_law_kind := (PySem.W.fnOf "_law_kind" "_law_kind" (defArgs s__law_kind) (defBody s__law_kind) (defScope s__law_kind) .none kV26 dc26 pm26 an26 cd26 ct26), f_law_told := f_law_told, d_law_told := (PySem.W.fnOf "_law_told" "_law_told" (defArgs s__law_told) (defBody s__law_told) (defScope s__law_told) .none kV27 dc27 pm27 an27 cd27 ct27), f_law_changed := f_law_changed, d_law_changed := (PySem.W.fnOf "_law_changed" "_law_changed" (defArgs s__law_changed) (defBody s__law_changed) (defScope s__law_changed) .none kV28 dc28 pm28 an28 cd28 ct28), f_law_four := f_law_four, d_law_four := (PySem.W.fnOf "_law_four" "_law_four" (defArgs s__law_four) (defBody s__law_four) (defScope s__law_four) .none kV29 dc29 pm29 an29 cd29 ct29), f_law_case := f_law_case, d_law_case := (PySem.W.fnOf "_law_case" "_law_case" (defArgs s__law_case) (defBody s__law_case) (defScope s__law_case) .none kV30 dc30 pm30 an30 cd30 ct30), flaw := fa, dlaw := (PySem.W.fnOf "law" "law" (defArgs s_law) (defBody s_law) (defScope s_law) .none kV31 dc31 pm31 an31 cd31 ct31), tGREATEST_NUMBER := tGREATEST_NUMBER, tLEAST_INT := tLEAST_INT, tGREATEST_INT := tGREATEST_INT, tLONGEST_TEXT := tLONGEST_TEXT, tMOST_OCTETS := tMOST_OCTETS, t_FIRST_CODE := t_FIRST_CODE, t_LAST_CODE := t_LAST_CODE, t_PERCENT_CODE := t_PERCENT_CODE, t_CHARACTERS := t_CHARACTERS, CBadMessage := CBadMessage, CBadArguments := CBadArguments, CBadLength := CBadLength, CBadText := CBadText, CBadPadding := CBadPadding, CObjectMissing := CObjectMissing }, rfl, { Fis_integer := F1, bis_integer := b1, gis_integer := PySem.W.mg_of X G a1, kis_integer := k1, Fis_text := F2, bis_text := b2, gis_text := PySem.W.mg_of X G a2, kis_text := k2, Fnumber_octets := F3, bnumber_octets := b3, gnumber_octets := PySem.W.mg_of X G a3, knumber_octets := k3, Fnumber_at := F4, bnumber_at := b4, gnumber_at := PySem.W.mg_of X G a4, knumber_at := k4, Ffield_octets := F5, bfield_octets := b5, gfield_octets := PySem.W.mg_of X G a5, kfield_octets := k5, Fread_arguments := F6, bread_arguments := b6, gread_arguments := PySem.W.mg_of X G a6, kread_arguments := k6, F_is_code := F7, b_is_code := b7, g_is_code := PySem.W.mg_of X G a7, k_is_code := k7, F_is_of := F8, b_is_of := b8, g_is_of := PySem.W.mg_of X G a8, k_is_of := k8, F_are_octets := F9, b_are_octets := b9, g_are_octets := PySem.W.mg_of X G a9, k_are_octets := k9, F_is_bound := F10, b_is_bound := b10, g_is_bound := PySem.W.mg_of X G a10, k_is_bound := k10, F_text_octets := F11, b_text_octets := b11, g_text_octets := PySem.W.mg_of X G a11, k_text_octets := k11, F_padded := F12, b_padded := b12, g_padded := PySem.W.mg_of X G a12, k_padded := k12, F_read := F13, b_read := b13, g_read := PySem.W.mg_of X G a13, k_read := k13, F_read_number := F14, b_read_number := b14, g_read_number := PySem.W.mg_of X G a14, k_read_number := k14, F_read_named := F15, b_read_named := b15, g_read_named := PySem.W.mg_of X G a15, k_read_named := k15, F_read_text := F16, b_read_text := b16, g_read_text := PySem.W.mg_of X G a16, k_read_text := k16, F_read_octets := F17, b_read_octets := b17, g_read_octets := PySem.W.mg_of X G a17, k_read_octets := k17, F_demand := F18, b_demand := b18, g_demand := PySem.W.mg_of X G a18, k_demand := k18, F_behind_padding := F19, b_behind_padding := b19, g_behind_padding := PySem.W.mg_of X G a19, k_behind_padding := k19, F_law_cell := F20, b_law_cell := b20, g_law_cell := PySem.W.mg_of X G a20, k_law_cell := k20, F_law_row := F21, b_law_row := b21, g_law_row := PySem.W.mg_of X G a21, k_law_row := k21, F_law_sign := F22, b_law_sign := b22, g_law_sign := PySem.W.mg_of X G a22, k_law_sign := k22, F_law_text := F23, b_law_text := b23, g_law_text := PySem.W.mg_of X G a23, k_law_text := k23, F_law_octets := F24, b_law_octets := b24, g_law_octets := PySem.W.mg_of X G a24, k_law_octets := k24, F_law_value := F25, b_law_value := b25, g_law_value := PySem.W.mg_of X G a25, k_law_value := k25, F_law_kind := F26, b_law_kind := b26, g_law_kind := PySem.W.mg_of X G a26, k_law_kind := k26, F_law_told := F27, b_law_told := b27, g_law_told := PySem.W.mg_of X G a27, k_law_told := k27, F_law_changed := F28, b_law_changed := b28, g_law_changed := PySem.W.mg_of X G a28, k_law_changed := k28, F_law_four := F29, b_law_four := b29, g_law_four := PySem.W.mg_of X G a29, k_law_four := k29, F_law_case := F30, b_law_case := b30, g_law_case := PySem.W.mg_of X G a30, k_law_case := k30, Flaw := F31, blaw := b31, glaw := PySem.W.mg_of X G a31, klaw := k31, all := PySem.W.mg_none_of X G z_all, any := PySem.W.mg_none_of X G z_any, bool := PySem.W.mg_none_of X G z_bool, int := PySem.W.mg_none_of X G z_int, isinstance := PySem.W.mg_none_of X G z_isinstance, len := PySem.W.mg_none_of X G z_len, list := PySem.W.mg_none_of X G z_list, max := PySem.W.mg_none_of X G z_max, min := PySem.W.mg_none_of X G z_min, ord := PySem.W.mg_none_of X G z_ord, range := PySem.W.mg_none_of X G z_range, str := PySem.W.mg_none_of X G z_str, sum := PySem.W.mg_none_of X G z_sum, tuple := PySem.W.mg_none_of X G z_tuple, gGREATEST_NUMBER := PySem.W.mg_of X G q_GREATEST_NUMBER, gLEAST_INT := PySem.W.mg_of X G q_LEAST_INT, gGREATEST_INT := PySem.W.mg_of X G q_GREATEST_INT, gLONGEST_TEXT := PySem.W.mg_of X G q_LONGEST_TEXT, gMOST_OCTETS := PySem.W.mg_of X G q_MOST_OCTETS, g_FIRST_CODE := PySem.W.mg_of X G q__FIRST_CODE, g_LAST_CODE := PySem.W.mg_of X G q__LAST_CODE, g_PERCENT_CODE := PySem.W.mg_of X G q__PERCENT_CODE, g_CHARACTERS := PySem.W.mg_of X G q__CHARACTERS, gBadMessage := PySem.W.mg_of X G uBadMessage, xBadMessage := xBadMessage, kBadMessage := keBadMessage, bxBadMessage := bxBadMessage, txBadMessage := txBadMessage, exBadMessage := exm_self bxBadMessage ixBadMessage txBadMessage sxBadMessage, gBadArguments := PySem.W.mg_of X G uBadArguments, xBadArguments := xBadArguments, kBadArguments := keBadArguments, bxBadArguments := bxBadArguments, txBadArguments := txBadArguments, exBadArguments := exm_self bxBadArguments ixBadArguments txBadArguments sxBadArguments, gBadLength := PySem.W.mg_of X G uBadLength, xBadLength := xBadLength, kBadLength := keBadLength, bxBadLength := bxBadLength, txBadLength := txBadLength, exBadLength := exm_self bxBadLength ixBadLength txBadLength sxBadLength, gBadText := PySem.W.mg_of X G uBadText, xBadText := xBadText, kBadText := keBadText, bxBadText := bxBadText, txBadText := txBadText, exBadText := exm_self bxBadText ixBadText txBadText sxBadText, gBadPadding := PySem.W.mg_of X G uBadPadding, xBadPadding := xBadPadding, kBadPadding := keBadPadding, bxBadPadding := bxBadPadding, txBadPadding := txBadPadding, exBadPadding := exm_self bxBadPadding ixBadPadding txBadPadding sxBadPadding, gObjectMissing := PySem.W.mg_of X G uObjectMissing, xObjectMissing := xObjectMissing, kObjectMissing := keObjectMissing, bxObjectMissing := bxObjectMissing, txObjectMissing := txObjectMissing, exObjectMissing := exm_self bxObjectMissing ixObjectMissing txObjectMissing sxObjectMissing, iEBadLength := ⟨gaBadLength, gtBadLength, bxBadLength, hxBadLength, fcBadLength, sgoc, tkoc, moBadLength⟩, kitBadLength_BadLength := kitBadLength_BadLength, kitBadLength_BadText := kitBadLength_BadText, kitBadLength_BadPadding := kitBadLength_BadPadding, kitBadLength_ObjectMissing := kitBadLength_ObjectMissing, iEBadText := ⟨gaBadText, gtBadText, bxBadText, hxBadText, fcBadText, sgoc, tkoc, moBadText⟩, kitBadText_BadLength := kitBadText_BadLength, kitBadText_BadText := kitBadText_BadText, kitBadText_BadPadding := kitBadText_BadPadding, kitBadText_ObjectMissing := kitBadText_ObjectMissing, iEBadPadding := ⟨gaBadPadding, gtBadPadding, bxBadPadding, hxBadPadding, fcBadPadding, sgoc, tkoc, moBadPadding⟩, kitBadPadding_BadLength := kitBadPadding_BadLength, kitBadPadding_BadText := kitBadPadding_BadText, kitBadPadding_BadPadding := kitBadPadding_BadPadding, kitBadPadding_ObjectMissing := kitBadPadding_ObjectMissing, iEObjectMissing := ⟨gaObjectMissing, gtObjectMissing, bxObjectMissing, hxObjectMissing, fcObjectMissing, sgoc, tkoc, moObjectMissing⟩, kitObjectMissing_BadLength := kitObjectMissing_BadLength, kitObjectMissing_BadText := kitObjectMissing_BadText, kitObjectMissing_BadPadding := kitObjectMissing_BadPadding, kitObjectMissing_ObjectMissing := kitObjectMissing_ObjectMissing, exBadMessage_BadArguments := exm_cross bxBadArguments ixBadArguments txBadArguments subBadMessage_BadArguments, exBadMessage_BadLength := exm_cross bxBadLength ixBadLength txBadLength subBadMessage_BadLength, exBadMessage_BadText := exm_cross bxBadText ixBadText txBadText subBadMessage_BadText, exBadMessage_BadPadding := exm_cross bxBadPadding ixBadPadding txBadPadding subBadMessage_BadPadding, exBadMessage_ObjectMissing := exm_cross bxObjectMissing ixObjectMissing txObjectMissing subBadMessage_ObjectMissing, exBadArguments_BadMessage := exm_cross bxBadMessage ixBadMessage txBadMessage subBadArguments_BadMessage, exBadArguments_BadLength := exm_cross bxBadLength ixBadLength txBadLength subBadArguments_BadLength, exBadArguments_BadText := exm_cross bxBadText ixBadText txBadText subBadArguments_BadText, exBadArguments_BadPadding := exm_cross bxBadPadding ixBadPadding txBadPadding subBadArguments_BadPadding, exBadArguments_ObjectMissing := exm_cross bxObjectMissing ixObjectMissing txObjectMissing subBadArguments_ObjectMissing, exBadLength_BadMessage := exm_cross bxBadMessage ixBadMessage txBadMessage subBadLength_BadMessage, exBadLength_BadArguments := exm_cross bxBadArguments ixBadArguments txBadArguments subBadLength_BadArguments, exBadLength_BadText := exm_cross bxBadText ixBadText txBadText subBadLength_BadText, exBadLength_BadPadding := exm_cross bxBadPadding ixBadPadding txBadPadding subBadLength_BadPadding, exBadLength_ObjectMissing := exm_cross bxObjectMissing ixObjectMissing txObjectMissing subBadLength_ObjectMissing, exBadText_BadMessage := exm_cross bxBadMessage ixBadMessage txBadMessage subBadText_BadMessage, exBadText_BadArguments := exm_cross bxBadArguments ixBadArguments txBadArguments subBadText_BadArguments, exBadText_BadLength := exm_cross bxBadLength ixBadLength txBadLength subBadText_BadLength, exBadText_BadPadding := exm_cross bxBadPadding ixBadPadding txBadPadding subBadText_BadPadding, exBadText_ObjectMissing := exm_cross bxObjectMissing ixObjectMissing txObjectMissing subBadText_ObjectMissing, exBadPadding_BadMessage := exm_cross bxBadMessage ixBadMessage txBadMessage subBadPadding_BadMessage, exBadPadding_BadArguments := exm_cross bxBadArguments ixBadArguments txBadArguments subBadPadding_BadArguments, exBadPadding_BadLength := exm_cross bxBadLength ixBadLength txBadLength subBadPadding_BadLength, exBadPadding_BadText := exm_cross bxBadText ixBadText txBadText subBadPadding_BadText, exBadPadding_ObjectMissing := exm_cross bxObjectMissing ixObjectMissing txObjectMissing subBadPadding_ObjectMissing, exObjectMissing_BadMessage := exm_cross bxBadMessage ixBadMessage txBadMessage subObjectMissing_BadMessage, exObjectMissing_BadArguments := exm_cross bxBadArguments ixBadArguments txBadArguments subObjectMissing_BadArguments, exObjectMissing_BadLength := exm_cross bxBadLength ixBadLength txBadLength subObjectMissing_BadLength, exObjectMissing_BadText := exm_cross bxBadText ixBadText txBadText subObjectMissing_BadText, exObjectMissing_BadPadding := exm_cross bxBadPadding ixBadPadding txBadPadding subObjectMissing_BadPadding }, fun s v => .of_eq rfl⟩
theorem walk {l : PySem.W.OpenLaw} {q : Program} {loose : List Str} {XP : (Str → Option Value) → Heap → Prop} {YP : World → Heap → Prop} {d : DefRec} {K : Params → PySem.W.Frag} (hn : l.most = some 63) (hdf : d.params.defaults = [])
    (hY : ∀ (w : World) (h : Heap), YP w h → (K w.params).In h)
    (F : ∀ (w : World) (mg : Str → Option Value) (fa : Addr) (h : Heap), (K w.params).In h → h.Ns mainGlobals mg → mg d.name = some (.ref fa) →
      ∃ A : Adr, A.flaw = fa ∧ Txt (K w.params) mg A ∧ (∀ (s : Shared) (v : Value), BindsTo s A.dlaw ⟨[v], []⟩ [("script", v)])) :
    PySem.W.WalkO q loose XP YP l.row.toRowW d [] (fun f vs => PySem.call f vs) :=
  L2.walk_of (n := 63) (k := 8) (x := "script") (CX := fun _ => CX0) (sp := fun w => sp_law (K w.params)) hn (by decide) hdf ⟨rfl, by decide, by decide⟩ hY (fun w mg fa h X G hfa => by
    obtain ⟨A, rfl, T, b⟩ := F w mg fa h X G hfa
    exact ⟨A.dlaw, b, fun base _ _ => ok_law T⟩) (fun _ _ a ns hl _ hS => ⟨a, ns, rfl, hS, hl, fun _ => rfl⟩) fun _ _ _ _ _ z => z
end My
open PySem PySem.W PyProof.Rows
set_option maxRecDepth 100000 in
set_option maxHeartbeats 0 in
theorem PySem.Challenge.cw_sillwatch_k05_arguments_refused_holds : PySem.Challenge.rw_sillwatch_k05_arguments_refused.Holds := by
  w_on; o_law; k_head; (case hw => w_witness2)
  k_fill
  refine My.walk (l := PySem.Challenge.rw_sillwatch_k05_arguments_refused) rfl rfl (fun w h Y => PySem.W.kIn_of Y) ?F
  case F =>
    intro w mg fa h KX G hmg
    refine' My.all_mk KX G hmg ?a1 ?l1 ?c1 ?k1 ?a2 ?l2 ?c2 ?k2 ?a3 ?l3 ?c3 ?k3 ?a4 ?l4 ?c4 ?k4 ?a5 ?l5 ?c5 ?k5 ?a6 ?l6 ?c6 ?k6 ?a7 ?l7 ?c7 ?k7 ?a8 ?l8 ?c8 ?k8 ?a9 ?l9 ?c9 ?k9 ?a10 ?l10 ?c10 ?k10 ?a11 ?l11 ?c11 ?k11 ?a12 ?l12 ?c12 ?k12 ?a13 ?l13 ?c13 ?k13 ?a14 ?l14 ?c14 ?k14 ?a15 ?l15 ?c15 ?k15 ?a16 ?l16 ?c16 ?k16 ?a17 ?l17 ?c17 ?k17 ?a18 ?l18 ?c18 ?k18 ?a19 ?l19 ?c19 ?k19 ?a20 ?l20 ?c20 ?k20 ?a21 ?l21 ?c21 ?k21 ?a22 ?l22 ?c22 ?k22 ?a23 ?l23 ?c23 ?k23 ?a24 ?l24 ?c24 ?k24 ?a25 ?l25 ?c25 ?k25 ?a26 ?l26 ?c26 ?k26 ?a27 ?l27 ?c27 ?k27 ?a28 ?l28 ?c28 ?k28 ?a29 ?l29 ?c29 ?k29 ?a30 ?l30 ?c30 ?k30 ?a31 ?l31 ?c31 ?k31 ?z_all ?z_any ?z_bool ?z_int ?z_isinstance ?z_len ?z_list ?z_max ?z_min ?z_ord ?z_range ?z_str ?z_sum ?z_tuple ?q_GREATEST_NUMBER ?q_LEAST_INT ?q_GREATEST_INT ?q_LONGEST_TEXT ?q_MOST_OCTETS ?q__FIRST_CODE ?q__LAST_CODE ?q__PERCENT_CODE ?q__CHARACTERS ?uBadMessage ?xBadMessage ?keBadMessage ?bxBadMessage ?txBadMessage ?ixBadMessage ?sxBadMessage ?uBadArguments ?xBadArguments ?keBadArguments ?bxBadArguments ?txBadArguments ?ixBadArguments ?sxBadArguments ?uBadLength ?xBadLength ?keBadLength ?bxBadLength ?txBadLength ?ixBadLength ?sxBadLength ?uBadText ?xBadText ?keBadText ?bxBadText ?txBadText ?ixBadText ?sxBadText ?uBadPadding ?xBadPadding ?keBadPadding ?bxBadPadding ?txBadPadding ?ixBadPadding ?sxBadPadding ?uObjectMissing ?xObjectMissing ?keObjectMissing ?bxObjectMissing ?txObjectMissing ?ixObjectMissing ?sxObjectMissing ?sgoc ?tkoc ?gaBadLength ?gtBadLength ?hxBadLength ?fcBadLength ?moBadLength ?kitBadLength_BadLength ?kitBadLength_BadText ?kitBadLength_BadPadding ?kitBadLength_ObjectMissing ?gaBadText ?gtBadText ?hxBadText ?fcBadText ?moBadText ?kitBadText_BadLength ?kitBadText_BadText ?kitBadText_BadPadding ?kitBadText_ObjectMissing ?gaBadPadding ?gtBadPadding ?hxBadPadding ?fcBadPadding ?moBadPadding ?kitBadPadding_BadLength ?kitBadPadding_BadText ?kitBadPadding_BadPadding ?kitBadPadding_ObjectMissing ?gaObjectMissing ?gtObjectMissing ?hxObjectMissing ?fcObjectMissing ?moObjectMissing ?kitObjectMissing_BadLength ?kitObjectMissing_BadText ?kitObjectMissing_BadPadding ?kitObjectMissing_ObjectMissing ?subBadMessage_BadArguments ?subBadMessage_BadLength ?subBadMessage_BadText ?subBadMessage_BadPadding ?subBadMessage_ObjectMissing ?subBadArguments_BadMessage ?subBadArguments_BadLength ?subBadArguments_BadText ?subBadArguments_BadPadding ?subBadArguments_ObjectMissing ?subBadLength_BadMessage ?subBadLength_BadArguments ?subBadLength_BadText ?subBadLength_BadPadding ?subBadLength_ObjectMissing ?subBadText_BadMessage ?subBadText_BadArguments ?subBadText_BadLength ?subBadText_BadPadding ?subBadText_ObjectMissing ?subBadPadding_BadMessage ?subBadPadding_BadArguments ?subBadPadding_BadLength ?subBadPadding_BadText ?subBadPadding_ObjectMissing ?subObjectMissing_BadMessage ?subObjectMissing_BadArguments ?subObjectMissing_BadLength ?subObjectMissing_BadText ?subObjectMissing_BadPadding
    (case uBadMessage => k_is)
    (case uBadArguments => k_is)
    (case uBadLength => k_is)
    (case uBadText => k_is)
    (case uBadPadding => k_is)
    (case uObjectMissing => k_is)
    (case a1 => k_is)
    (case l1 => k_is)
    (case c1 => k_is)
    (case k1 => k_is)
    (case a2 => k_is)
    (case l2 => k_is)
    (case c2 => k_is)
    (case k2 => k_is)
    (case a3 => k_is)
    (case l3 => k_is)
    (case c3 => k_is)
    (case k3 => k_is)
    (case a4 => k_is)
    (case l4 => k_is)
    (case c4 => k_is)
    (case k4 => k_is)
    (case a5 => k_is)
    (case l5 => k_is)
    (case c5 => k_is)
    (case k5 => k_is)
    (case a6 => k_is)
    (case l6 => k_is)
    (case c6 => k_is)
    (case k6 => k_is)
    (case a7 => k_is)
    (case l7 => k_is)
    (case c7 => k_is)
    (case k7 => k_is)
    (case a8 => k_is)
    (case l8 => k_is)
    (case c8 => k_is)
    (case k8 => k_is)
    (case a9 => k_is)
    (case l9 => k_is)
    (case c9 => k_is)
    (case k9 => k_is)
    (case a10 => k_is)
    (case l10 => k_is)
    (case c10 => k_is)
    (case k10 => k_is)
    (case a11 => k_is)
    (case l11 => k_is)
    (case c11 => k_is)
    (case k11 => k_is)
    (case a12 => k_is)
    (case l12 => k_is)
    (case c12 => k_is)
    (case k12 => k_is)
    (case a13 => k_is)
    (case l13 => k_is)
    (case c13 => k_is)
    (case k13 => k_is)
    (case a14 => k_is)
    (case l14 => k_is)
    (case c14 => k_is)
    (case k14 => k_is)
    (case a15 => k_is)
    (case l15 => k_is)
    (case c15 => k_is)
    (case k15 => k_is)
    (case a16 => k_is)
    (case l16 => k_is)
    (case c16 => k_is)
    (case k16 => k_is)
    (case a17 => k_is)
    (case l17 => k_is)
    (case c17 => k_is)
    (case k17 => k_is)
    (case a18 => k_is)
    (case l18 => k_is)
    (case c18 => k_is)
    (case k18 => k_is)
    (case a19 => k_is)
    (case l19 => k_is)
    (case c19 => k_is)
    (case k19 => k_is)
    (case a20 => k_is)
    (case l20 => k_is)
    (case c20 => k_is)
    (case k20 => k_is)
    (case a21 => k_is)
    (case l21 => k_is)
    (case c21 => k_is)
    (case k21 => k_is)
    (case a22 => k_is)
    (case l22 => k_is)
    (case c22 => k_is)
    (case k22 => k_is)
    (case a23 => k_is)
    (case l23 => k_is)
    (case c23 => k_is)
    (case k23 => k_is)
    (case a24 => k_is)
    (case l24 => k_is)
    (case c24 => k_is)
    (case k24 => k_is)
    (case a25 => k_is)
    (case l25 => k_is)
    (case c25 => k_is)
    (case k25 => k_is)
    (case a26 => k_is)
    (case l26 => k_is)
    (case c26 => k_is)
    (case k26 => k_is)
    (case a27 => k_is)
    (case l27 => k_is)
    (case c27 => k_is)
    (case k27 => k_is)
    (case a28 => k_is)
    (case l28 => k_is)
    (case c28 => k_is)
    (case k28 => k_is)
    (case a29 => k_is)
    (case l29 => k_is)
    (case c29 => k_is)
    (case k29 => k_is)
    (case a30 => k_is)
    (case l30 => k_is)
    (case c30 => k_is)
    (case k30 => k_is)
    (case a31 => k_is)
    (case l31 => k_is)
    (case c31 => k_is)
    (case k31 => k_is)
    (case z_all => k_is)
    (case z_any => k_is)
    (case z_bool => k_is)
    (case z_int => k_is)
    (case z_isinstance => k_is)
    (case z_len => k_is)
    (case z_list => k_is)
    (case z_max => k_is)
    (case z_min => k_is)
    (case z_ord => k_is)
    (case z_range => k_is)
    (case z_str => k_is)
    (case z_sum => k_is)
    (case z_tuple => k_is)
    (case q_GREATEST_NUMBER => k_is)
    (case q_LEAST_INT => k_is)
    (case q_GREATEST_INT => k_is)
    (case q_LONGEST_TEXT => k_is)
    (case q_MOST_OCTETS => k_is)
    (case q__FIRST_CODE => k_is)
    (case q__LAST_CODE => k_is)
    (case q__PERCENT_CODE => k_is)
    (case q__CHARACTERS => k_is)
    (case xBadMessage => k_exc)
    (case keBadMessage => k_is)
    (case bxBadMessage => k_is)
    (case txBadMessage => k_is)
    (case ixBadMessage => k_is)
    (case sxBadMessage => first | rfl | k_is)
    (case xBadArguments => k_exc)
    (case keBadArguments => k_is)
    (case bxBadArguments => k_is)
    (case txBadArguments => k_is)
    (case ixBadArguments => k_is)
    (case sxBadArguments => first | rfl | k_is)
    (case xBadLength => k_exc)
    (case keBadLength => k_is)
    (case bxBadLength => k_is)
    (case txBadLength => k_is)
    (case ixBadLength => k_is)
    (case sxBadLength => first | rfl | k_is)
    (case xBadText => k_exc)
    (case keBadText => k_is)
    (case bxBadText => k_is)
    (case txBadText => k_is)
    (case ixBadText => k_is)
    (case sxBadText => first | rfl | k_is)
    (case xBadPadding => k_exc)
    (case keBadPadding => k_is)
    (case bxBadPadding => k_is)
    (case txBadPadding => k_is)
    (case ixBadPadding => k_is)
    (case sxBadPadding => first | rfl | k_is)
    (case xObjectMissing => k_exc)
    (case keObjectMissing => k_is)
    (case bxObjectMissing => k_is)
    (case txObjectMissing => k_is)
    (case ixObjectMissing => k_is)
    (case sxObjectMissing => first | rfl | k_is)
    (case sgoc => k_is)
    (case tkoc => k_is)
    (case gaBadLength => k_is)
    (case gtBadLength => k_is)
    (case hxBadLength => k_is)
    (case fcBadLength => k_is)
    (case moBadLength => k_is)
    (case kitBadLength_BadLength => kit_is)
    (case kitBadLength_BadText => kit_is)
    (case kitBadLength_BadPadding => kit_is)
    (case kitBadLength_ObjectMissing => kit_is)
    (case gaBadText => k_is)
    (case gtBadText => k_is)
    (case hxBadText => k_is)
    (case fcBadText => k_is)
    (case moBadText => k_is)
    (case kitBadText_BadLength => kit_is)
    (case kitBadText_BadText => kit_is)
    (case kitBadText_BadPadding => kit_is)
    (case kitBadText_ObjectMissing => kit_is)
    (case gaBadPadding => k_is)
    (case gtBadPadding => k_is)
    (case hxBadPadding => k_is)
    (case fcBadPadding => k_is)
    (case moBadPadding => k_is)
    (case kitBadPadding_BadLength => kit_is)
    (case kitBadPadding_BadText => kit_is)
    (case kitBadPadding_BadPadding => kit_is)
    (case kitBadPadding_ObjectMissing => kit_is)
    (case gaObjectMissing => k_is)
    (case gtObjectMissing => k_is)
    (case hxObjectMissing => k_is)
    (case fcObjectMissing => k_is)
    (case moObjectMissing => k_is)
    (case kitObjectMissing_BadLength => kit_is)
    (case kitObjectMissing_BadText => kit_is)
    (case kitObjectMissing_BadPadding => kit_is)
    (case kitObjectMissing_ObjectMissing => kit_is)
    (case subBadMessage_BadArguments => k_is)
    (case subBadMessage_BadLength => k_is)
    (case subBadMessage_BadText => k_is)
    (case subBadMessage_BadPadding => k_is)
    (case subBadMessage_ObjectMissing => k_is)
    (case subBadArguments_BadMessage => k_is)
    (case subBadArguments_BadLength => k_is)
    (case subBadArguments_BadText => k_is)
    (case subBadArguments_BadPadding => k_is)
    (case subBadArguments_ObjectMissing => k_is)
    (case subBadLength_BadMessage => k_is)
    (case subBadLength_BadArguments => k_is)
    (case subBadLength_BadText => k_is)
    (case subBadLength_BadPadding => k_is)
    (case subBadLength_ObjectMissing => k_is)
    (case subBadText_BadMessage => k_is)
    (case subBadText_BadArguments => k_is)
    (case subBadText_BadLength => k_is)
    (case subBadText_BadPadding => k_is)
    (case subBadText_ObjectMissing => k_is)
    (case subBadPadding_BadMessage => k_is)
    (case subBadPadding_BadArguments => k_is)
    (case subBadPadding_BadLength => k_is)
    (case subBadPadding_BadText => k_is)
    (case subBadPadding_ObjectMissing => k_is)
    (case subObjectMissing_BadMessage => k_is)
    (case subObjectMissing_BadArguments => k_is)
    (case subObjectMissing_BadLength => k_is)
    (case subObjectMissing_BadText => k_is)
    (case subObjectMissing_BadPadding => k_is)
