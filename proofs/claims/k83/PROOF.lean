import PyProof.Rows.All
import Wide.All
import OpenK.AllK
import Wide.FinOn
import HandS.ForMost
import HandS.Exc
import HandS.TryOnly
import HandS.ExcOwn
import HandS.WordsExc
import HandS.IsInst
import HandS.Wide
import HandS.Flow
import HandS.More
import HandS.Codes
import HandS.Walk
import HandS.TupLe
import HandS.WordsDict
import HandS.Conv
import HandS.TryMany
import HandS.ExcIs
import KE.KBits
import HandS.CallLocal
import HandS.Strs
import HandS.SetFor
import HandS.Set
import HandS.Property
import HandS.TupLe
import PySem.Challenge.RW_sillwatch_k83_mailbox
set_option Elab.async false
set_option linter.all false
set_option maxRecDepth 100000
set_option maxHeartbeats 4000000
namespace My
open PySem L2
def topS (i : Nat) : Stmt := PySem.Challenge.pw_sillwatch_k83_mailbox.main.body.getD i (.Pass ⟨0, 0, 0, 0⟩)
abbrev s_is_integer : Stmt := topS 14
abbrev s_is_text : Stmt := topS 15
abbrev s_number_octets : Stmt := topS 16
abbrev s_number_at : Stmt := topS 17
abbrev s_field_octets : Stmt := topS 18
abbrev s__is_code : Stmt := topS 19
abbrev s__is_of : Stmt := topS 20
abbrev s__are_octets : Stmt := topS 21
abbrev s__is_bound : Stmt := topS 22
abbrev s__text_octets : Stmt := topS 23
abbrev s__padded : Stmt := topS 24
abbrev s_encode_message : Stmt := topS 30
abbrev s_cut_messages : Stmt := topS 31
abbrev s_is_message_size : Stmt := topS 32
abbrev s__cut : Stmt := topS 33
abbrev s__law_cell : Stmt := topS 41
abbrev s__law_row : Stmt := topS 42
abbrev s__law_message : Stmt := topS 43
abbrev s__law_stream : Stmt := topS 44
abbrev s__law_cost : Stmt := topS 45
abbrev s__law_front_good : Stmt := topS 46
abbrev s__law_take : Stmt := topS 47
abbrev s__law_read : Stmt := topS 48
abbrev s_law : Stmt := topS 49
abbrev s_Mailbox___init__ : Stmt := inClass (topS 39) 0
abbrev s_Mailbox_put : Stmt := inClass (topS 39) 1
abbrev s_Mailbox_cost : Stmt := inClass (topS 39) 2
abbrev s_Mailbox_take : Stmt := inClass (topS 39) 3
abbrev s_Mailbox_is_bad : Stmt := inClass (topS 39) 4
abbrev s_Mailbox_tell : Stmt := inClass (topS 39) 5
abbrev s_Mailbox_read : Stmt := inClass (topS 39) 6
abbrev s_Mailbox_is_slow : Stmt := inClass (topS 39) 7
abbrev s_Mailbox__front_size : Stmt := inClass (topS 39) 11
structure Adr where
  fis_integer : Addr
  dis_integer : FuncData
  fis_text : Addr
  dis_text : FuncData
  fnumber_octets : Addr
  dnumber_octets : FuncData
  fnumber_at : Addr
  dnumber_at : FuncData
  ffield_octets : Addr
  dfield_octets : FuncData
  f_is_code : Addr
  d_is_code : FuncData
  f_is_of : Addr
  d_is_of : FuncData
  f_are_octets : Addr
  d_are_octets : FuncData
  f_is_bound : Addr
  d_is_bound : FuncData
  f_text_octets : Addr
  d_text_octets : FuncData
  f_padded : Addr
  d_padded : FuncData
  fencode_message : Addr
  dencode_message : FuncData
  fcut_messages : Addr
  dcut_messages : FuncData
  fis_message_size : Addr
  dis_message_size : FuncData
  f_cut : Addr
  d_cut : FuncData
  f_law_cell : Addr
  d_law_cell : FuncData
  f_law_row : Addr
  d_law_row : FuncData
  f_law_message : Addr
  d_law_message : FuncData
  f_law_stream : Addr
  d_law_stream : FuncData
  f_law_cost : Addr
  d_law_cost : FuncData
  f_law_front_good : Addr
  d_law_front_good : FuncData
  f_law_take : Addr
  d_law_take : FuncData
  f_law_read : Addr
  d_law_read : FuncData
  flaw : Addr
  dlaw : FuncData
  fMailbox___init__ : Addr
  dMailbox___init__ : FuncData
  fMailbox_put : Addr
  dMailbox_put : FuncData
  fMailbox_cost : Addr
  dMailbox_cost : FuncData
  fMailbox_take : Addr
  dMailbox_take : FuncData
  fMailbox_is_bad : Addr
  dMailbox_is_bad : FuncData
  fMailbox_tell : Addr
  dMailbox_tell : FuncData
  fMailbox_read : Addr
  dMailbox_read : FuncData
  fMailbox_is_slow : Addr
  dMailbox_is_slow : FuncData
  fMailbox__front_size : Addr
  dMailbox__front_size : FuncData
  tGREATEST_NUMBER : Tok
  tLEAST_INT : Tok
  tGREATEST_INT : Tok
  tLONGEST_TEXT : Tok
  tMOST_OCTETS : Tok
  t_FIRST_CODE : Tok
  t_LAST_CODE : Tok
  t_PERCENT_CODE : Tok
  tHEADER_SIZE : Tok
  tGREATEST_SIZE : Tok
  tGREATEST_OPCODE : Tok
  tMOST_ARGUMENTS : Tok
  tMOST_QUEUED : Tok
  tMOST_UNREAD : Tok
  tMOST_UNREAD_OCTETS : Tok
  tOCTETS_FOR_A_UNIT : Tok
  CMailbox : Addr
  CBadMessage : Addr
  CMessageTooLong : Addr
structure Txt (K : PySem.W.Frag) (mg : Str → Option Value) (A : Adr) : Prop where
  Fis_integer : Fun K "is_integer" "is_integer" s_is_integer A.fis_integer A.dis_integer
  bis_integer : Binds K A.dis_integer ["value", "least", "greatest"] []
  gis_integer : mg "is_integer" = some (.ref A.fis_integer)
  kis_integer : PySem.W.keepIn K (.ref A.fis_integer) = true
  Fis_text : Fun K "is_text" "is_text" s_is_text A.fis_text A.dis_text
  bis_text : Binds K A.dis_text ["value"] []
  gis_text : mg "is_text" = some (.ref A.fis_text)
  kis_text : PySem.W.keepIn K (.ref A.fis_text) = true
  Fnumber_octets : Fun K "number_octets" "number_octets" s_number_octets A.fnumber_octets A.dnumber_octets
  bnumber_octets : Binds K A.dnumber_octets ["number", "count"] []
  gnumber_octets : mg "number_octets" = some (.ref A.fnumber_octets)
  knumber_octets : PySem.W.keepIn K (.ref A.fnumber_octets) = true
  Fnumber_at : Fun K "number_at" "number_at" s_number_at A.fnumber_at A.dnumber_at
  bnumber_at : Binds K A.dnumber_at ["octets", "at", "count"] []
  gnumber_at : mg "number_at" = some (.ref A.fnumber_at)
  knumber_at : PySem.W.keepIn K (.ref A.fnumber_at) = true
  Ffield_octets : Fun K "field_octets" "field_octets" s_field_octets A.ffield_octets A.dfield_octets
  bfield_octets : Binds K A.dfield_octets ["kind", "value"] []
  gfield_octets : mg "field_octets" = some (.ref A.ffield_octets)
  kfield_octets : PySem.W.keepIn K (.ref A.ffield_octets) = true
  F_is_code : Fun K "_is_code" "_is_code" s__is_code A.f_is_code A.d_is_code
  b_is_code : Binds K A.d_is_code ["code"] []
  g_is_code : mg "_is_code" = some (.ref A.f_is_code)
  k_is_code : PySem.W.keepIn K (.ref A.f_is_code) = true
  F_is_of : Fun K "_is_of" "_is_of" s__is_of A.f_is_of A.d_is_of
  b_is_of : Binds K A.d_is_of ["kind", "value"] []
  g_is_of : mg "_is_of" = some (.ref A.f_is_of)
  k_is_of : PySem.W.keepIn K (.ref A.f_is_of) = true
  F_are_octets : Fun K "_are_octets" "_are_octets" s__are_octets A.f_are_octets A.d_are_octets
  b_are_octets : Binds K A.d_are_octets ["value"] []
  g_are_octets : mg "_are_octets" = some (.ref A.f_are_octets)
  k_are_octets : PySem.W.keepIn K (.ref A.f_are_octets) = true
  F_is_bound : Fun K "_is_bound" "_is_bound" s__is_bound A.f_is_bound A.d_is_bound
  b_is_bound : Binds K A.d_is_bound ["value"] []
  g_is_bound : mg "_is_bound" = some (.ref A.f_is_bound)
  k_is_bound : PySem.W.keepIn K (.ref A.f_is_bound) = true
  F_text_octets : Fun K "_text_octets" "_text_octets" s__text_octets A.f_text_octets A.d_text_octets
  b_text_octets : Binds K A.d_text_octets ["text"] []
  g_text_octets : mg "_text_octets" = some (.ref A.f_text_octets)
  k_text_octets : PySem.W.keepIn K (.ref A.f_text_octets) = true
  F_padded : Fun K "_padded" "_padded" s__padded A.f_padded A.d_padded
  b_padded : Binds K A.d_padded ["octets"] []
  g_padded : mg "_padded" = some (.ref A.f_padded)
  k_padded : PySem.W.keepIn K (.ref A.f_padded) = true
  Fencode_message : Fun K "encode_message" "encode_message" s_encode_message A.fencode_message A.dencode_message
  bencode_message : Binds K A.dencode_message ["number", "opcode", "arguments"] []
  gencode_message : mg "encode_message" = some (.ref A.fencode_message)
  kencode_message : PySem.W.keepIn K (.ref A.fencode_message) = true
  Fcut_messages : Fun K "cut_messages" "cut_messages" s_cut_messages A.fcut_messages A.dcut_messages
  bcut_messages : Binds K A.dcut_messages ["octets"] []
  gcut_messages : mg "cut_messages" = some (.ref A.fcut_messages)
  kcut_messages : PySem.W.keepIn K (.ref A.fcut_messages) = true
  Fis_message_size : Fun K "is_message_size" "is_message_size" s_is_message_size A.fis_message_size A.dis_message_size
  bis_message_size : Binds K A.dis_message_size ["size"] []
  gis_message_size : mg "is_message_size" = some (.ref A.fis_message_size)
  kis_message_size : PySem.W.keepIn K (.ref A.fis_message_size) = true
  F_cut : Fun K "_cut" "_cut" s__cut A.f_cut A.d_cut
  b_cut : Binds K A.d_cut ["octets"] []
  g_cut : mg "_cut" = some (.ref A.f_cut)
  k_cut : PySem.W.keepIn K (.ref A.f_cut) = true
  F_law_cell : Fun K "_law_cell" "_law_cell" s__law_cell A.f_law_cell A.d_law_cell
  b_law_cell : Binds K A.d_law_cell ["script", "k"] []
  g_law_cell : mg "_law_cell" = some (.ref A.f_law_cell)
  k_law_cell : PySem.W.keepIn K (.ref A.f_law_cell) = true
  F_law_row : Fun K "_law_row" "_law_row" s__law_row A.f_law_row A.d_law_row
  b_law_row : Binds K A.d_law_row ["script", "k"] []
  g_law_row : mg "_law_row" = some (.ref A.f_law_row)
  k_law_row : PySem.W.keepIn K (.ref A.f_law_row) = true
  F_law_message : Fun K "_law_message" "_law_message" s__law_message A.f_law_message A.d_law_message
  b_law_message : Binds K A.d_law_message ["row"] []
  g_law_message : mg "_law_message" = some (.ref A.f_law_message)
  k_law_message : PySem.W.keepIn K (.ref A.f_law_message) = true
  F_law_stream : Fun K "_law_stream" "_law_stream" s__law_stream A.f_law_stream A.d_law_stream
  b_law_stream : Binds K A.d_law_stream ["script"] []
  g_law_stream : mg "_law_stream" = some (.ref A.f_law_stream)
  k_law_stream : PySem.W.keepIn K (.ref A.f_law_stream) = true
  F_law_cost : Fun K "_law_cost" "_law_cost" s__law_cost A.f_law_cost A.d_law_cost
  b_law_cost : Binds K A.d_law_cost ["message"] []
  g_law_cost : mg "_law_cost" = some (.ref A.f_law_cost)
  k_law_cost : PySem.W.keepIn K (.ref A.f_law_cost) = true
  F_law_front_good : Fun K "_law_front_good" "_law_front_good" s__law_front_good A.f_law_front_good A.d_law_front_good
  b_law_front_good : Binds K A.d_law_front_good ["mail", "octets"] []
  g_law_front_good : mg "_law_front_good" = some (.ref A.f_law_front_good)
  k_law_front_good : PySem.W.keepIn K (.ref A.f_law_front_good) = true
  F_law_take : Fun K "_law_take" "_law_take" s__law_take A.f_law_take A.d_law_take
  b_law_take : Binds K A.d_law_take ["mail", "queue"] []
  g_law_take : mg "_law_take" = some (.ref A.f_law_take)
  k_law_take : PySem.W.keepIn K (.ref A.f_law_take) = true
  F_law_read : Fun K "_law_read" "_law_read" s__law_read A.f_law_read A.d_law_read
  b_law_read : Binds K A.d_law_read ["mail", "unread", "most"] []
  g_law_read : mg "_law_read" = some (.ref A.f_law_read)
  k_law_read : PySem.W.keepIn K (.ref A.f_law_read) = true
  Flaw : Fun K "law" "law" s_law A.flaw A.dlaw
  blaw : Binds K A.dlaw ["script"] []
  glaw : mg "law" = some (.ref A.flaw)
  klaw : PySem.W.keepIn K (.ref A.flaw) = true
  FMailbox___init__ : Fun K "__init__" "Mailbox.__init__" s_Mailbox___init__ A.fMailbox___init__ A.dMailbox___init__
  bMailbox___init__ : Binds K A.dMailbox___init__ ["self"] []
  MMailbox : Mk K A.CMailbox A.fMailbox___init__
  FMailbox_put : Fun K "put" "Mailbox.put" s_Mailbox_put A.fMailbox_put A.dMailbox_put
  bMailbox_put : Binds K A.dMailbox_put ["self", "octets"] []
  mMailbox_put : Meth K A.CMailbox "put" A.fMailbox_put
  FMailbox_cost : Fun K "cost" "Mailbox.cost" s_Mailbox_cost A.fMailbox_cost A.dMailbox_cost
  bMailbox_cost : Binds K A.dMailbox_cost ["self"] []
  mMailbox_cost : Meth K A.CMailbox "cost" A.fMailbox_cost
  FMailbox_take : Fun K "take" "Mailbox.take" s_Mailbox_take A.fMailbox_take A.dMailbox_take
  bMailbox_take : Binds K A.dMailbox_take ["self"] []
  mMailbox_take : Meth K A.CMailbox "take" A.fMailbox_take
  FMailbox_is_bad : Fun K "is_bad" "Mailbox.is_bad" s_Mailbox_is_bad A.fMailbox_is_bad A.dMailbox_is_bad
  bMailbox_is_bad : Binds K A.dMailbox_is_bad ["self"] []
  mMailbox_is_bad : Meth K A.CMailbox "is_bad" A.fMailbox_is_bad
  FMailbox_tell : Fun K "tell" "Mailbox.tell" s_Mailbox_tell A.fMailbox_tell A.dMailbox_tell
  bMailbox_tell : Binds K A.dMailbox_tell ["self", "octets"] []
  mMailbox_tell : Meth K A.CMailbox "tell" A.fMailbox_tell
  FMailbox_read : Fun K "read" "Mailbox.read" s_Mailbox_read A.fMailbox_read A.dMailbox_read
  bMailbox_read : Binds K A.dMailbox_read ["self", "most"] []
  mMailbox_read : Meth K A.CMailbox "read" A.fMailbox_read
  FMailbox_is_slow : Fun K "is_slow" "Mailbox.is_slow" s_Mailbox_is_slow A.fMailbox_is_slow A.dMailbox_is_slow
  bMailbox_is_slow : Binds K A.dMailbox_is_slow ["self"] []
  mMailbox_is_slow : Meth K A.CMailbox "is_slow" A.fMailbox_is_slow
  FMailbox__front_size : Fun K "_front_size" "Mailbox._front_size" s_Mailbox__front_size A.fMailbox__front_size A.dMailbox__front_size
  bMailbox__front_size : Binds K A.dMailbox__front_size ["self"] []
  mMailbox__front_size : Meth K A.CMailbox "_front_size" A.fMailbox__front_size
  all : mg "all" = none
  bool : mg "bool" = none
  int : mg "int" = none
  isinstance : mg "isinstance" = none
  len : mg "len" = none
  list : mg "list" = none
  min : mg "min" = none
  ord : mg "ord" = none
  range : mg "range" = none
  str : mg "str" = none
  sum : mg "sum" = none
  tuple : mg "tuple" = none
  gGREATEST_NUMBER : mg "GREATEST_NUMBER" = some (.int (4294967295) A.tGREATEST_NUMBER)
  gLEAST_INT : mg "LEAST_INT" = some (.int (-2147483648) A.tLEAST_INT)
  gGREATEST_INT : mg "GREATEST_INT" = some (.int (2147483647) A.tGREATEST_INT)
  gLONGEST_TEXT : mg "LONGEST_TEXT" = some (.int (1000) A.tLONGEST_TEXT)
  gMOST_OCTETS : mg "MOST_OCTETS" = some (.int (16384) A.tMOST_OCTETS)
  g_FIRST_CODE : mg "_FIRST_CODE" = some (.int (32) A.t_FIRST_CODE)
  g_LAST_CODE : mg "_LAST_CODE" = some (.int (126) A.t_LAST_CODE)
  g_PERCENT_CODE : mg "_PERCENT_CODE" = some (.int (37) A.t_PERCENT_CODE)
  gHEADER_SIZE : mg "HEADER_SIZE" = some (.int (8) A.tHEADER_SIZE)
  gGREATEST_SIZE : mg "GREATEST_SIZE" = some (.int (20480) A.tGREATEST_SIZE)
  gGREATEST_OPCODE : mg "GREATEST_OPCODE" = some (.int (65535) A.tGREATEST_OPCODE)
  gMOST_ARGUMENTS : mg "MOST_ARGUMENTS" = some (.int (20) A.tMOST_ARGUMENTS)
  gMOST_QUEUED : mg "MOST_QUEUED" = some (.int (16384) A.tMOST_QUEUED)
  gMOST_UNREAD : mg "MOST_UNREAD" = some (.int (1024) A.tMOST_UNREAD)
  gMOST_UNREAD_OCTETS : mg "MOST_UNREAD_OCTETS" = some (.int (65536) A.tMOST_UNREAD_OCTETS)
  gOCTETS_FOR_A_UNIT : mg "OCTETS_FOR_A_UNIT" = some (.int (256) A.tOCTETS_FOR_A_UNIT)
  clMailbox : Cls K A.CMailbox
  gMailbox : mg "Mailbox" = some (.ref A.CMailbox)
  nMailbox__queue : NoAttr K A.CMailbox "_queue"
  nMailbox__unread : NoAttr K A.CMailbox "_unread"
  nMailbox__unread_octets : NoAttr K A.CMailbox "_unread_octets"
  gBadMessage : mg "BadMessage" = some (.ref A.CBadMessage)
  xBadMessage : PySem.W.excIn K A.CBadMessage [.type "ValueError", .type "Exception", .type "BaseException", .type "object"] "ValueError.__new__" = true
  kBadMessage : PySem.W.keepIn K (.ref A.CBadMessage) = true
  bxBadMessage : PySem.W.subIn K (.ref A.CBadMessage) (.type "BaseException") = some true
  txBadMessage : PySem.W.typeIn K (.ref A.CBadMessage) = some (.type "type")
  exBadMessage : PySem.W.exmOne K (.ref A.CBadMessage) (.ref A.CBadMessage) = some true
  gMessageTooLong : mg "MessageTooLong" = some (.ref A.CMessageTooLong)
  xMessageTooLong : PySem.W.excIn K A.CMessageTooLong [.type "ValueError", .type "Exception", .type "BaseException", .type "object"] "ValueError.__new__" = true
  kMessageTooLong : PySem.W.keepIn K (.ref A.CMessageTooLong) = true
  bxMessageTooLong : PySem.W.subIn K (.ref A.CMessageTooLong) (.type "BaseException") = some true
  txMessageTooLong : PySem.W.typeIn K (.ref A.CMessageTooLong) = some (.type "type")
  exMessageTooLong : PySem.W.exmOne K (.ref A.CMessageTooLong) (.ref A.CMessageTooLong) = some true
section
variable {P : Program} {w : World} {K : PySem.W.Frag} {mg : Str → Option Value} {base : Heap} {A : Adr}
/-! ### common: tests, errors, small words -/
theorem exm_self {K : PySem.W.Frag} {S : Addr} (h1 : PySem.W.subIn K (.ref S) (.type "BaseException") = some true) (h2 : PySem.W.isClsIn K S = true) (h3 : PySem.W.typeIn K (.ref S) = some (.type "type")) (h4 : PySem.W.subIn K (.ref S) (.ref S) = some true) :
    PySem.W.exmOne K (.ref S) (.ref S) = some true := by
  have g1 : (PySem.W.subIn K (.ref S) (.type "BaseException") == some true) = true := by rw [h1]; rfl
  have g0 : (PySem.W.clsIn K S).isSome = true := h2
  have g2 : ((PySem.W.clsIn K S).isSome && PySem.W.typeIn K (.ref S) == some (.type "type")) = true := by rw [g0, h3]; rfl
  show (if (PySem.W.subIn K (.ref S) (.type "BaseException") == some true) = true then (if ((PySem.W.clsIn K S).isSome && PySem.W.typeIn K (.ref S) == some (.type "type")) = true then PySem.W.subIn K (.ref S) (.ref S) else none) else none) = some true
  rw [if_pos g1, if_pos g2]
  exact h4
theorem exm_cross {K : PySem.W.Frag} {S R : Addr} {b : Bool} (h1 : PySem.W.subIn K (.ref S) (.type "BaseException") = some true) (h2 : PySem.W.isClsIn K S = true) (h3 : PySem.W.typeIn K (.ref S) = some (.type "type")) (h4 : PySem.W.subIn K (.ref R) (.ref S) = some b) :
    PySem.W.exmOne K (.ref R) (.ref S) = some b := by
  have g1 : (PySem.W.subIn K (.ref S) (.type "BaseException") == some true) = true := by rw [h1]; rfl
  have g0 : (PySem.W.clsIn K S).isSome = true := h2
  have g2 : ((PySem.W.clsIn K S).isSome && PySem.W.typeIn K (.ref S) == some (.type "type")) = true := by rw [g0, h3]; rfl
  show (if (PySem.W.subIn K (.ref S) (.type "BaseException") == some true) = true then (if ((PySem.W.clsIn K S).isSome && PySem.W.typeIn K (.ref S) == some (.type "type")) = true then PySem.W.subIn K (.ref R) (.ref S) else none) else none) = some b
  rw [if_pos g1, if_pos g2]
  exact h4
/-- the law's own promise -/
def sp_law (K : PySem.W.Frag) : Sp := fun vs H Q _ => ∃ (a : Addr) (ns : List Int), vs = [.ref a] ∧ SqL K H a (ns.map V.int) ∧ ns.length ≤ 63 ∧ ∀ H', Q (.bl true) H'
theorem iteP {p A B : Prop} [Decidable p] (h1 : p → A) (h2 : ¬ p → B) : if decide p = true then A else B := by
  by_cases h : p
  · rw [decide_eq_true h]; exact iteT (h1 h)
  · rw [decide_eq_false h]; exact iteF (h2 h)
theorem iteN {p A B : Prop} [Decidable p] (h1 : ¬ p → A) (h2 : p → B) : if (!decide p) = true then A else B := by
  by_cases h : p
  · rw [decide_eq_true h]; exact iteF (h2 h)
  · rw [decide_eq_false h]; exact iteT (h1 h)
theorem iteEq {i j : Int} {A B : Prop} (h1 : i = j → A) (h2 : i ≠ j → B) : if decide (V.int i = V.int j) = true then A else B :=
  iteP (fun h => h1 (V.int.inj h)) (fun h => h2 fun e => h (congrArg V.int e))
theorem iteNe {i j : Int} {A B : Prop} (h1 : i ≠ j → A) (h2 : i = j → B) : if (!decide (V.int i = V.int j)) = true then A else B :=
  iteN (fun h => h1 fun e => h (congrArg V.int e)) (fun h => h2 (V.int.inj h))
theorem if_t {b : Bool} {A B : Prop} (e : b = true) (h : A) : if b = true then A else B := by rw [if_pos e]; exact h
theorem if_f {b : Bool} {A B : Prop} (e : b = false) (h : B) : if b = true then A else B := by rw [e]; exact iteF h
theorem if_b {b : Bool} {A B : Prop} (h1 : b = true → A) (h2 : b = false → B) : if b = true then A else B := by
  cases b with
  | true => exact iteT (h1 rfl)
  | false => exact iteF (h2 rfl)
theorem same_upd {H : Hp} {p : Addr} {o : HO} (h : H p = none) : Same H (upd H p o) := fun b x e => by
  rw [upd_ne (ne_of_none e h)]
  exact e
theorem len_line {n : Nat} (h : n ≤ 100000) : n ≤ sizeLine := Nat.le_trans h (by decide)
theorem lt_line {n : Nat} (h : n < 100000) : n < sizeLine := Nat.lt_of_lt_of_le h (by decide)
local macro_rules | `(tactic| walk_at "rd") => `(tactic| repeat (first
  | refine ⟨_, rfl, ?_⟩
  | refine ⟨_, _, rfl, rfl, ?_⟩
  | refine ⟨rfl, ?_⟩
  | refine Or.inl ⟨_, rfl, ?_⟩
  | refine ⟨(by show (0 : Int) < _; decide), ?_⟩
  | refine ⟨(⟨by decide, by decide⟩ : CDiv _ _), ?_⟩
  | refine ⟨(Or.inl ⟨by decide, by decide⟩ : CMul _ _), ?_⟩
  | refine ⟨(Or.inr ⟨by decide, by decide⟩ : CMul _ _), ?_⟩))
/-! ### data that are compared -/
def Sh (n : Nat) (d : PyData) : Prop := d.canLay0 = true ∧ d.depth ≤ n
theorem Sh.mono {n m : Nat} {d : PyData} (h : Sh n d) (l : n ≤ m) : Sh m d := ⟨h.1, Nat.le_trans h.2 l⟩
theorem sh_all : ∀ {n : Nat} {ds : List PyData}, (∀ d ∈ ds, Sh n d) → PyData.canLayAll0 ds = true ∧ PyData.depthAll ds ≤ n
  | n, [], _ => ⟨by simp [PyData.canLayAll0], by simp [PyData.depthAll]⟩
  | n, d :: ds, h => by
    have h1 := h d List.mem_cons_self
    have h2 := sh_all fun e he => h e (List.mem_cons_of_mem _ he)
    refine ⟨?_, ?_⟩
    · simp only [PyData.canLayAll0, Bool.and_eq_true]; exact ⟨h1.1, h2.1⟩
    · simp only [PyData.depthAll]; exact Nat.max_le.mpr ⟨h1.2, h2.2⟩
theorem sh_list {n : Nat} {ds : List PyData} (h : ∀ d ∈ ds, Sh n d) : Sh (n + 1) (.list ds) := by
  have q := sh_all h
  exact ⟨by simp only [PyData.canLay0]; exact q.1, by simp only [PyData.depth]; exact Nat.succ_le_succ q.2⟩
theorem sh_tuple {n : Nat} {ds : List PyData} (h : ∀ d ∈ ds, Sh n d) : Sh (n + 1) (.tuple ds) := by
  have q := sh_all h
  exact ⟨by simp only [PyData.canLay0]; exact q.1, by simp only [PyData.depth]; exact Nat.succ_le_succ q.2⟩
theorem sh_int (i : Int) : Sh 0 (.int i) := ⟨by simp [PyData.canLay0], by simp [PyData.depth]⟩
theorem sh_bool (i : Bool) : Sh 0 (.bool i) := ⟨by simp [PyData.canLay0], by simp [PyData.depth]⟩
theorem sh_none : Sh 0 .none := ⟨by simp [PyData.canLay0], by simp [PyData.depth]⟩
theorem sh_str {s : Str} (h : PyData.strOk s = true) : Sh 0 (.str s) := ⟨by simp only [PyData.canLay0]; exact h, by simp [PyData.depth]⟩
theorem Sh.shaped {n : Nat} {d : PyData} (h : Sh n d) (l : n ≤ 64 := by decide) : SeqAt.shaped d = true := by
  show (d.canLay0 && decide (d.depth ≤ 64)) = true
  rw [h.1, decide_eq_true (Nat.le_trans h.2 l)]
  rfl
theorem Sh.self {n : Nat} {d : PyData} (h : Sh n d) : PyData.eqv d d = true := SeqAt.eqv_refl d h.1
def pInts (xs : List Int) : PyData := .list (xs.map PyData.int)
theorem sh_ints (xs : List Int) : Sh 1 (pInts xs) := sh_list fun d hd => by
  obtain ⟨i, _, rfl⟩ := List.mem_map.mp hd
  exact sh_int i
theorem dpall_ints {K : PySem.W.Frag} {H : Hp} : ∀ xs : List Int, DpAll K H (xs.map V.int) (xs.map PyData.int)
  | [] => .nil
  | x :: r => .cons (.int x) (dpall_ints r)
theorem dp_ints {K : PySem.W.Frag} {H : Hp} {p : Addr} {xs : List Int} (h : SqL K H p (xs.map V.int)) : Dp K H (.ref p) (pInts xs) := .lst h (dpall_ints xs)
/-! ### views: what is new, what stands -/
structure Ext (V H V' H' : Hp) : Prop where
  vv : Same V V'
  vh : Same V' H'
  hh : Same H H'
  nw : ∀ a, V' a ≠ none → V a ≠ none ∨ H a = none
theorem Ext.refl {V H : Hp} (h : Same V H) : Ext V H V H := ⟨Same.refl V, h, Same.refl H, fun _ h => Or.inl h⟩
theorem Ext.trans {V H V1 H1 V2 H2 : Hp} (a : Ext V H V1 H1) (b : Ext V1 H1 V2 H2) : Ext V H V2 H2 :=
  ⟨a.vv.trans b.vv, b.vh, a.hh.trans b.hh, fun x h => by
    rcases b.nw x h with q | q
    · exact a.nw x q
    · exact Or.inr (a.hh.free q)⟩
theorem none_of_same {V H : Hp} {p : Addr} (s : Same V H) (h : H p = none) : V p = none := s.free h
theorem Ext.new {V H : Hp} {p : Addr} {o : HO} (s : Same V H) (h : H p = none) : Ext V H (upd V p o) (upd H p o) :=
  ⟨same_upd (s.free h), fun b u e => by
    by_cases hb : b = p
    · subst hb; rw [upd_same] at e ⊢; exact e
    · rw [upd_ne hb] at e ⊢; exact s b u e, same_upd h, fun a e => by
    by_cases ha : a = p
    · subst ha; exact Or.inr h
    · rw [upd_ne ha] at e; exact Or.inl e⟩
/-- a new object that the view does not take in -/
theorem Ext.skip {V H : Hp} {p : Addr} {o : HO} (s : Same V H) (h : H p = none) : Ext V H V (upd H p o) :=
  ⟨Same.refl V, s.trans (same_upd h), same_upd h, fun _ e => Or.inl e⟩
theorem Ext.keepOut {V H V' H' : Hp} (x : Ext V H V' H') {D : Addr} (h : V D = none) (hd : H D ≠ none) : V' D = none := by
  cases e : V' D with
  | none => rfl
  | some o =>
    rcases x.nw D (by rw [e]; exact fun z => by cases z) with q | q
    · exact absurd h q
    · exact absurd q hd
/-- an object outside of the view changes -/
theorem Ext.poke {V H V' H' : Hp} (x : Ext V H V' H') {D : Addr} {o : HO} (hd : H D = none) (h : V' D = none) : Ext V H V' (upd H' D o) :=
  ⟨x.vv, fun b u e => by
    have hb : b ≠ D := fun z => by rw [z, h] at e; cases e
    rw [upd_ne hb]; exact x.vh b u e, fun b u e => by
    have hb : b ≠ D := ne_of_none e hd
    rw [upd_ne hb]; exact x.hh b u e, x.nw⟩
/-- the object at D, done, is taken in -/
theorem Ext.take {V H V' H' : Hp} (x : Ext V H V' H') {D : Addr} {o : HO} (hd : H D = none) (h : V' D = none) (e : H' D = some o) : Ext V H (upd V' D o) H' :=
  ⟨x.vv.trans (same_upd h), fun b u q => by
    by_cases hb : b = D
    · subst hb; rw [upd_same] at q; rw [e]; exact q
    · rw [upd_ne hb] at q; exact x.vh b u q, x.hh, fun a q => by
    by_cases ha : a = D
    · subst ha; exact Or.inr hd
    · rw [upd_ne ha] at q; exact x.nw a q⟩
theorem _root_.L2.Same.sqt {K : PySem.W.Frag} {H H' : Hp} {a : Addr} {xs : List V} (e : Same H H') (h : SqT K H a xs) : SqT K H' a xs := by
  rcases h with (h | ⟨o, h⟩) | h
  · exact .inl (.inl (e _ _ h))
  · exact .inl (.inr ⟨o, e _ _ h⟩)
  · exact .inr h
mutual
theorem dp_same {K : PySem.W.Frag} {H H' : Hp} (s : Same H H') : ∀ (d : PyData) (v : V), Dp K H v d → Dp K H' v d
  | .none, _, h => by cases h; exact .non
  | .bool b, _, h => by cases h; exact .bl b
  | .int i, _, h => by cases h; exact .int i
  | .str x, _, h => by cases h; exact .str x
  | .list ds, _, h => by
    cases h with
    | lst q r => exact .lst (s.seq q) (dpall_same s ds _ r)
  | .tuple ds, _, h => by
    cases h with
    | tup q r => exact .tup (s.sqt q) (dpall_same s ds _ r)
  | .dict _, _, h => by cases h
theorem dpall_same {K : PySem.W.Frag} {H H' : Hp} (s : Same H H') : ∀ (ds : List PyData) (vs : List V), DpAll K H vs ds → DpAll K H' vs ds
  | [], _, h => by cases h; exact .nil
  | d :: ds, _, h => by
    cases h with
    | cons q r => exact .cons (dp_same s d _ q) (dpall_same s ds _ r)
end
theorem _root_.L2.Dp.to {K : PySem.W.Frag} {H H' : Hp} {v : V} {d : PyData} (h : Dp K H v d) (s : Same H H') : Dp K H' v d := dp_same s d v h
theorem _root_.L2.DpAll.to {K : PySem.W.Frag} {H H' : Hp} {v : List V} {d : List PyData} (h : DpAll K H v d) (s : Same H H') : DpAll K H' v d := dpall_same s d v h
theorem dpall_len {K : PySem.W.Frag} {H : Hp} : ∀ {vs : List V} {ds : List PyData}, DpAll K H vs ds → vs.length = ds.length
  | _, [], h => by cases h; rfl
  | _, d :: ds, h => by
    cases h with
    | cons q r => exact congrArg (· + 1) (dpall_len r)
theorem dpall_get {K : PySem.W.Frag} {H : Hp} : ∀ {vs : List V} {ds : List PyData} {i : Nat} {v : V}, DpAll K H vs ds → vs[i]? = some v → ∃ d, ds[i]? = some d ∧ Dp K H v d
  | _, [], i, v, h, e => by cases h; cases e
  | _, d :: ds, i, v, h, e => by
    cases h with
    | cons q r =>
      match i, e with
      | 0, e => cases e; exact ⟨d, rfl, q⟩
      | i + 1, e => exact dpall_get (i := i) r e
theorem dpall_get' {K : PySem.W.Frag} {H : Hp} : ∀ {vs : List V} {ds : List PyData} {i : Nat} {d : PyData}, DpAll K H vs ds → ds[i]? = some d → ∃ v, vs[i]? = some v ∧ Dp K H v d
  | _, [], i, d, h, e => by cases e
  | _, d :: ds, i, d', h, e => by
    cases h with
    | cons q r =>
      match i, e with
      | 0, e => cases e; exact ⟨_, rfl, q⟩
      | i + 1, e => exact dpall_get' (i := i) r e
theorem dpall_app {K : PySem.W.Frag} {H : Hp} : ∀ {vs ws : List V} {ds es : List PyData}, DpAll K H vs ds → DpAll K H ws es → DpAll K H (vs ++ ws) (ds ++ es)
  | _, _, [], _, h, g => by cases h; exact g
  | _, _, d :: ds, _, h, g => by
    cases h with
    | cons q r => exact .cons q (dpall_app r g)
theorem dp_list {K : PySem.W.Frag} {H : Hp} {v : V} {ds : List PyData} (h : Dp K H v (.list ds)) : ∃ a xs, v = .ref a ∧ SqL K H a xs ∧ DpAll K H xs ds := by
  cases h with
  | lst q r => exact ⟨_, _, rfl, q, r⟩
theorem dp_tuple {K : PySem.W.Frag} {H : Hp} {v : V} {ds : List PyData} (h : Dp K H v (.tuple ds)) : ∃ a xs, v = .ref a ∧ SqT K H a xs ∧ DpAll K H xs ds := by
  cases h with
  | tup q r => exact ⟨_, _, rfl, q, r⟩
theorem dp_int {K : PySem.W.Frag} {H : Hp} {v : V} {i : Int} (h : Dp K H v (.int i)) : v = .int i := by cases h; rfl
theorem dp_str {K : PySem.W.Frag} {H : Hp} {v : V} {i : Str} (h : Dp K H v (.str i)) : v = .str i := by cases h; rfl
theorem dp_bool {K : PySem.W.Frag} {H : Hp} {v : V} {i : Bool} (h : Dp K H v (.bool i)) : v = .bl i := by cases h; rfl
/-! ### comprehensions over any walk -/
def fm {α : Type} (f : Nat → Option α) (n : Nat) : List α := (List.range n).filterMap f
theorem fm_succ {α : Type} (f : Nat → Option α) (n : Nat) : fm f (n + 1) = fm f n ++ (f n).toList := by
  unfold fm
  rw [List.range_succ, List.filterMap_append]
  congr 1
theorem fm_len {α : Type} (f : Nat → Option α) (n : Nat) : (fm f n).length ≤ n := by
  have h := List.length_filterMap_le f (List.range n)
  rw [List.length_range] at h
  exact h
structure LcInv (K : PySem.W.Frag) (V0 H0 : Hp) (D : Addr) (acc : List PyData) (H : Hp) : Prop where
  ex : ∃ V xs, Ext V0 H0 V H ∧ V D = none ∧ H D = some (.lst xs) ∧ DpAll K V xs acc
theorem LcInv.start {K : PySem.W.Frag} {V0 H0 : Hp} {D : Addr} (s : Same V0 H0) (hD : H0 D = none) : LcInv K V0 H0 D [] (upd H0 D (.lst [])) :=
  ⟨V0, [], Ext.skip s hD, s.free hD, upd_same, .nil⟩
theorem LcInv.done {K : PySem.W.Frag} {V0 H0 H : Hp} {D : Addr} {acc : List PyData} (hD : H0 D = none) (i : LcInv K V0 H0 D acc H) : ∃ U xs, Ext V0 H0 U H ∧ U D = some (.lst xs) ∧ DpAll K U xs acc ∧ Dp K U (.ref D) (.list acc) := by
  obtain ⟨V, xs, x, hv, hd, dp⟩ := i.ex
  exact ⟨_, xs, x.take hD hv hd, upd_same, dp.to (same_upd hv), .lst (SqL.of upd_same) (dp.to (same_upd hv))⟩
/-- one more item -/
theorem LcInv.push {K : PySem.W.Frag} {V0 H0 U H U' H' : Hp} {D : Addr} {acc : List PyData} {xs : List V} {y : V} {d : PyData} (hD : H0 D = none) (x : Ext V0 H0 U H) (hv : U D = none) (hd : H D = some (.lst xs)) (dp : DpAll K U xs acc)
    (x2 : Ext U H U' H') (e : Dp K U' y d) (hl : acc.length < 100000) :
    ∃ acc', H' D = some (.lst acc') ∧ acc'.length < sizeLine ∧ LcInv K V0 H0 D (acc ++ [d]) (upd H' D (.lst (acc' ++ [y]))) := by
  have hv' : U' D = none := x2.keepOut hv (by rw [hd]; exact fun z => by cases z)
  refine ⟨xs, x2.hh _ _ hd, lt_line (by rw [dpall_len dp]; exact hl), U', xs ++ [y], (x.trans x2).poke hD hv', hv', upd_same, dpall_app (dp.to x2.vv) (.cons e .nil)⟩
/-- a comprehension's reading over a walk that leaves the heap as it is: at turn i the item x, then f i: the data of what is put in, or none -/
theorem lc_dp0 {J : It} {n : Nat} {G : Hp → Prop} {Y : Nat → Hp → V → Hp → Prop} (wk : Walk J n G Y) {K : PySem.W.Frag} {V0 H0 : Hp} {D : Addr} {g : TG} {tt : TT} {te : TE} {vs : List Nat} {σ : St} {Qd : Hp → Prop} (f : Nat → Option PyData) (σ0 : St) (hσ : wipe σ vs = σ0) (s0 : Same V0 H0) (hD : H0 D = none) (hn : n < 100000)
    (hG : ∀ H, Same H0 H → G H) (hY : ∀ i H x H', Y i H x H' → H' = H)
    (hs : ∀ i x V H, i < n → Ext V0 H0 V H → Y i H x H → ∀ (Qy : VK) (Qn : Hp → Prop), (∀ d y V' H', f i = some d → Ext V H V' H' → Dp K V' y d → Qy y H') → (f i = none → ∀ V' H', Ext V H V' H' → Qn H') →
      g x σ0 H fun σ2 H2 => wipe σ2 vs = σ0 ∧ tt σ2 H2 fun b H3 => if b = true then te σ2 H3 Qy else Qn H3)
    (hd : ∀ (U H : Hp) (xs : List V), Ext V0 H0 U H → U D = none → H D = some (.lst xs) → DpAll K U xs (fm f n) → Qd H) :
    ∃ W : Nat → Nat → Hp → Prop, (∃ m, W 0 m (upd H0 D (.lst []))) ∧ ∀ i m H, W i m H →
      (J.stop i H ∧ Qd H) ∨ (J.go i H ∧ ∃ Nx : Hp → Prop, (∀ H', Nx H' → ∃ m', m' < m ∧ W (i + 1) m' H') ∧ ∀ x H', J.yld i H x H' → g x (wipe σ vs) H' fun σ2 H2 => wipe σ2 vs = wipe σ vs ∧ tt σ2 H2 fun b H3 =>
        if b = true then te σ2 H3 fun y H4 => ∃ acc, H4 D = some (.lst acc) ∧ acc.length < sizeLine ∧ Nx (upd H4 D (.lst (acc ++ [y]))) else Nx H3) := by
  subst hσ
  refine lc_it wk (fun i H => LcInv K V0 H0 D (fm f i) H) (LcInv.start s0 hD) (fun i H _ p => ?_) (fun i x H H' hi p y => ?_) (fun H p => ?_)
  · obtain ⟨V, xs, x, _⟩ := p.ex
    exact hG H x.hh
  · obtain ⟨V, xs, x0, hv, hdd, dp⟩ := p.ex
    obtain rfl := hY i H x H' y
    refine hs i x V H' hi x0 y _ _ (fun d y' V' H4 e x2 dy => ?_) (fun e V' H4 x2 => ?_)
    · have hl : (fm f i).length < 100000 := Nat.lt_of_le_of_lt (fm_len f i) (Nat.lt_trans hi hn)
      obtain ⟨acc', a1, a2, a3⟩ := LcInv.push hD x0 hv hdd dp x2 dy hl
      refine ⟨acc', a1, a2, ?_⟩
      rw [fm_succ, e]
      exact a3
    · have hv' : V' D = none := x2.keepOut hv (by rw [hdd]; exact fun z => by cases z)
      rw [fm_succ, e]
      show LcInv K V0 H0 D (fm f i ++ []) H4
      rw [List.append_nil]
      exact ⟨V', xs, x0.trans x2, hv', x2.hh _ _ hdd, dp.to x2.vv⟩
  · obtain ⟨U, xs, x, hv, hdd, dp⟩ := p.ex
    exact hd U H xs x hv hdd dp
/-- a comprehension's reading over a walk that leaves the heap as it is: at turn i the item x, then f i: the data of what is put in, or none -/
theorem lc_dp {J : It} {n : Nat} {G : Hp → Prop} {Y : Nat → Hp → V → Hp → Prop} (wk : Walk J n G Y) {K : PySem.W.Frag} {V0 H0 : Hp} {D : Addr} {g : TG} {tt : TT} {te : TE} {vs : List Nat} {σ : St} {Qd : Hp → Prop} (f : Nat → Option PyData) (σ0 : St) (hσ : wipe σ vs = σ0) (s0 : Same V0 H0) (hD : H0 D = none) (hn : n < 100000)
    (hG : ∀ H, Same H0 H → G H) (hY : ∀ i H x H', Y i H x H' → H' = H)
    (hs : ∀ i x V H, i < n → Ext V0 H0 V H → Y i H x H → ∀ (Qy : VK) (Qn : Hp → Prop), (∀ d y V' H', f i = some d → Ext V H V' H' → Dp K V' y d → Qy y H') → (f i = none → ∀ V' H', Ext V H V' H' → Qn H') →
      g x σ0 H fun σ2 H2 => wipe σ2 vs = σ0 ∧ tt σ2 H2 fun b H3 => if b = true then te σ2 H3 Qy else Qn H3)
    (hd : ∀ (U H : Hp) (xs : List V), Ext V0 H0 U H → U D = some (.lst xs) → DpAll K U xs (fm f n) → Dp K U (.ref D) (.list (fm f n)) → Qd H) :
    ∃ W : Nat → Nat → Hp → Prop, (∃ m, W 0 m (upd H0 D (.lst []))) ∧ ∀ i m H, W i m H →
      (J.stop i H ∧ Qd H) ∨ (J.go i H ∧ ∃ Nx : Hp → Prop, (∀ H', Nx H' → ∃ m', m' < m ∧ W (i + 1) m' H') ∧ ∀ x H', J.yld i H x H' → g x (wipe σ vs) H' fun σ2 H2 => wipe σ2 vs = wipe σ vs ∧ tt σ2 H2 fun b H3 =>
        if b = true then te σ2 H3 fun y H4 => ∃ acc, H4 D = some (.lst acc) ∧ acc.length < sizeLine ∧ Nx (upd H4 D (.lst (acc ++ [y]))) else Nx H3) := by
  refine lc_dp0 wk f σ0 hσ s0 hD hn hG hY hs fun U H xs x hv hdd dp => ?_
  exact hd _ H xs (x.take hD hv hdd) upd_same (dp.to (same_upd hv)) (.lst (SqL.of upd_same) (dp.to (same_upd hv)))
theorem fm_map {α β : Type} (f : α → β) : ∀ (xs : List α), fm (fun i => (xs[i]?).map f) xs.length = xs.map f := by
  intro xs
  have h : ∀ n, n ≤ xs.length → fm (fun i => (xs[i]?).map f) n = (xs.take n).map f := by
    intro n
    induction n with
    | zero => intro _; rfl
    | succ n ih =>
      intro hn
      rw [fm_succ, ih (by omega), List.getElem?_eq_getElem (by omega), List.take_succ_eq_append_getElem (by omega), List.map_append]
      rfl
  rw [h _ (Nat.le_refl _), List.take_length]

theorem lc2_outer {J : It} {n : Nat} {G : Hp → Prop} {Y : Nat → Hp → V → Hp → Prop} (wk : Walk J n G Y) {K : PySem.W.Frag} {V0 H0 : Hp} {D : Addr} {g : TG} {vs : List Nat} {σ : St} {body : St → Hp → (Hp → Prop) → Prop} {Qd : Hp → Prop} (F : Nat → List PyData) (σ0 : St) (hσ : wipe σ vs = σ0) (s0 : Same V0 H0) (hD : H0 D = none) (hF : F 0 = [])
    (hG : ∀ H, Same H0 H → G H) (hY : ∀ i H x H', Y i H x H' → H' = H)
    (hs : ∀ i x H, i < n → LcInv K V0 H0 D (F i) H → Y i H x H → ∀ Nx : Hp → Prop, (∀ H', LcInv K V0 H0 D (F (i + 1)) H' → Nx H') → g x σ0 H fun σ2 H2 => wipe σ2 vs = σ0 ∧ body σ2 H2 Nx)
    (hd : ∀ (U H : Hp) (xs : List V), Ext V0 H0 U H → U D = some (.lst xs) → DpAll K U xs (F n) → Dp K U (.ref D) (.list (F n)) → Qd H) :
    ∃ W : Nat → Nat → Hp → Prop, (∃ m, W 0 m (upd H0 D (.lst []))) ∧ ∀ i m H, W i m H →
      (J.stop i H ∧ Qd H) ∨ (J.go i H ∧ ∃ Nx : Hp → Prop, (∀ H', Nx H' → ∃ m', m' < m ∧ W (i + 1) m' H') ∧ ∀ x H', J.yld i H x H' → g x (wipe σ vs) H' fun σ2 H2 => wipe σ2 vs = wipe σ vs ∧ body σ2 H2 Nx) := by
  subst hσ
  refine ⟨fun i m H => m = n - i ∧ i ≤ n ∧ LcInv K V0 H0 D (F i) H, ⟨n, by simp, Nat.zero_le _, by rw [hF]; exact LcInv.start s0 hD⟩, ?_⟩
  rintro i m H ⟨rfl, hi, p⟩
  have sH : Same H0 H := by obtain ⟨_, _, x, _⟩ := p.ex; exact x.hh
  by_cases hlt : i < n
  · refine .inr ⟨wk.goes i H hlt (hG H sH), fun H' => LcInv K V0 H0 D (F (i + 1)) H', fun H' p' => ⟨n - (i + 1), by omega, rfl, hlt, p'⟩, fun x H' y => ?_⟩
    have y' := wk.yields i H x H' hlt (hG H sH) y
    obtain rfl := hY i H x H' y'
    exact hs i x H' hlt p y' _ fun _ h => h
  · have e : i = n := by omega
    subst e
    obtain ⟨U, xs, x, e1, e2, e3⟩ := p.done hD
    exact .inl ⟨wk.stops H (hG H sH), hd U H xs x e1 e2 e3⟩
theorem lc2_inner {J : It} {n : Nat} {G : Hp → Prop} {Y : Nat → Hp → V → Hp → Prop} (wk : Walk J n G Y) {K : PySem.W.Frag} {V0 H0 H4 : Hp} {D : Addr} {acc0 : List PyData} {g : TG} {tt : TT} {te : TE} {vs : List Nat} {σ : St} {Nx : Hp → Prop} (f : Nat → Option PyData) (σ0 : St) (hσ : wipe σ vs = σ0) (hD : H0 D = none)
    (inv : LcInv K V0 H0 D acc0 H4) (hn : acc0.length + n < 100000) (hG : ∀ H, Same H0 H → G H) (hY : ∀ i H x H', Y i H x H' → H' = H)
    (hs : ∀ i x V H, i < n → Ext V0 H0 V H → Y i H x H → ∀ (Qy : VK) (Qn : Hp → Prop), (∀ d y V' H', f i = some d → Ext V H V' H' → Dp K V' y d → Qy y H') → (f i = none → ∀ V' H', Ext V H V' H' → Qn H') →
      g x σ0 H fun σ2 H2 => wipe σ2 vs = σ0 ∧ tt σ2 H2 fun b H3 => if b = true then te σ2 H3 Qy else Qn H3)
    (hd : ∀ H, LcInv K V0 H0 D (acc0 ++ fm f n) H → Nx H) :
    ∃ W : Nat → Nat → Hp → Prop, (∃ m, W 0 m H4) ∧ ∀ i m H, W i m H →
      (J.stop i H ∧ Nx H) ∨ (J.go i H ∧ ∃ Nx1 : Hp → Prop, (∀ H', Nx1 H' → ∃ m', m' < m ∧ W (i + 1) m' H') ∧ ∀ x H', J.yld i H x H' → g x (wipe σ vs) H' fun σ2 H2 => wipe σ2 vs = wipe σ vs ∧ tt σ2 H2 fun b H3 =>
        if b = true then te σ2 H3 fun y H4 => ∃ acc, H4 D = some (.lst acc) ∧ acc.length < sizeLine ∧ Nx1 (upd H4 D (.lst (acc ++ [y]))) else Nx1 H3) := by
  subst hσ
  refine ⟨fun i m H => m = n - i ∧ i ≤ n ∧ LcInv K V0 H0 D (acc0 ++ fm f i) H, ⟨n, by simp, Nat.zero_le _, by rw [show fm f 0 = [] from rfl, List.append_nil]; exact inv⟩, ?_⟩
  rintro i m H ⟨rfl, hi, p⟩
  have sH : Same H0 H := by obtain ⟨_, _, x, _⟩ := p.ex; exact x.hh
  by_cases hlt : i < n
  · refine .inr ⟨wk.goes i H hlt (hG H sH), fun H' => LcInv K V0 H0 D (acc0 ++ fm f (i + 1)) H', fun H' p' => ⟨n - (i + 1), by omega, rfl, hlt, p'⟩, fun x H' y => ?_⟩
    have y' := wk.yields i H x H' hlt (hG H sH) y
    obtain rfl := hY i H x H' y'
    obtain ⟨V, xs, x0, hv, hdd, dp⟩ := p.ex
    refine hs i x V H' hlt x0 y' _ _ (fun d y' V' H4 e x2 dy => ?_) (fun e V' H4 x2 => ?_)
    · have hl : (acc0 ++ fm f i).length < 100000 := by have := fm_len f i; rw [List.length_append]; omega
      obtain ⟨acc', a1, a2, a3⟩ := LcInv.push hD x0 hv hdd dp x2 dy hl
      refine ⟨acc', a1, a2, ?_⟩
      rw [fm_succ, e, ← List.append_assoc]
      exact a3
    · have hv' : V' D = none := x2.keepOut hv (by rw [hdd]; exact fun z => by cases z)
      rw [fm_succ, e]
      show LcInv K V0 H0 D (acc0 ++ (fm f i ++ [])) H4
      rw [List.append_nil]
      exact ⟨V', xs, x0.trans x2, hv', x2.hh _ _ hdd, dp.to x2.vv⟩
  · have e : i = n := by omega
    subst e
    exact .inl ⟨wk.stops H (hG H sH), hd H p⟩
theorem fm_some {α : Type} (f : Nat → α) (n : Nat) : fm (fun i => some (f i)) n = (List.range n).map f := by
  induction n with
  | zero => rfl
  | succ n ih => rw [fm_succ, ih, List.range_succ, List.map_append]; rfl
theorem fl_take' {α : Type} {β : Type} (f : α → List β) : ∀ (xs : List α) (i : Nat) (x : α), xs[i]? = some x → (xs.take (i + 1)).flatMap f = (xs.take i).flatMap f ++ f x := by
  intro xs i x h
  obtain ⟨hi, e⟩ := List.getElem?_eq_some_iff.mp h
  rw [List.take_succ_eq_append_getElem hi, List.flatMap_append, e]
  show _ ++ (f x ++ []) = _
  rw [List.append_nil]
theorem fl_le' {α : Type} {β : Type} (f : α → List β) (xs : List α) (i : Nat) : ((xs.take i).flatMap f).length ≤ (xs.flatMap f).length := by
  have : xs.flatMap f = (xs.take i).flatMap f ++ (xs.drop i).flatMap f := by rw [← List.flatMap_append, List.take_append_drop]
  rw [this, List.length_append]; omega
/-! ### lists of ints, texts -/
theorem tyL {K : PySem.W.Frag} {H : Hp} {a : Addr} {xs : List V} (h : SqL K H a xs) : TyX K H (.ref a) (.type "list") := by
  rcases h with (h | ⟨o, h⟩) | ⟨o, its, n, h, c, _⟩
  · exact .base (.lst h)
  · exact .base (.frz h)
  · exact .kList h c
theorem tyT {K : PySem.W.Frag} {H : Hp} {a : Addr} {xs : List V} (h : SqT K H a xs) : TyX K H (.ref a) (.type "tuple") := by
  rcases h with (h | ⟨o, h⟩) | ⟨o, its, n, h, c, _⟩
  · exact .base (.tup h)
  · exact .fTuple h
  · exact .kTuple h c
theorem dp_intsV {K : PySem.W.Frag} {H : Hp} : ∀ {xs : List V} {is : List Int}, DpAll K H xs (is.map PyData.int) → xs = is.map V.int
  | _, [], r => by cases r; rfl
  | _, i :: is, r => by
    cases r with
    | cons r1 r2 => cases r1; rw [dp_intsV r2]; rfl
theorem dp_intsL {K : PySem.W.Frag} {H : Hp} {a : Addr} {is : List Int} (h : Dp K H (.ref a) (.list (is.map PyData.int))) : SqL K H a (is.map V.int) := by
  obtain ⟨a', xs, e, q, r⟩ := dp_list h
  cases e
  rw [← dp_intsV r]; exact q
theorem dp_strsV {K : PySem.W.Frag} {H : Hp} : ∀ {xs : List V} {is : List Str}, DpAll K H xs (is.map PyData.str) → xs = is.map V.str
  | _, [], r => by cases r; rfl
  | _, i :: is, r => by
    cases r with
    | cons r1 r2 => cases r1; rw [dp_strsV r2]; rfl
theorem dp_boolsV {K : PySem.W.Frag} {H : Hp} : ∀ {xs : List V} {is : List Bool}, DpAll K H xs (is.map PyData.bool) → xs = is.map V.bl
  | _, [], r => by cases r; rfl
  | _, i :: is, r => by
    cases r with
    | cons r1 r2 => cases r1; rw [dp_boolsV r2]; rfl
theorem dp_boolsL {K : PySem.W.Frag} {H : Hp} {a : Addr} {is : List Bool} (h : Dp K H (.ref a) (.list (is.map PyData.bool))) : SqL K H a (is.map V.bl) := by
  obtain ⟨a', xs, e, q, r⟩ := dp_list h
  cases e
  rw [← dp_boolsV r]; exact q
theorem size_eq (z : Str) : z.cps.size = z.cps.toList.length := by simp
theorem cps_at (z : Str) (i : Nat) : z.cps[i]? = z.cps.toList[i]? := by simp
theorem fm_list {α β : Type} (f : α → β) (xs : List α) (n : Nat) (h : n = xs.length) (g : Nat → Option β) (hg : ∀ i x, xs[i]? = some x → g i = some (f x)) : fm g n = xs.map f := by
  subst h
  rw [← fm_map f xs]
  unfold fm
  have : ∀ l : List Nat, (∀ i ∈ l, i < xs.length) → l.filterMap g = l.filterMap fun i => (xs[i]?).map f := by
    intro l
    induction l with
    | nil => intro _; rfl
    | cons i l ih =>
      intro hl
      have hi' := hl i List.mem_cons_self
      rw [List.filterMap_cons, List.filterMap_cons, hg i _ (List.getElem?_eq_getElem hi'), List.getElem?_eq_getElem hi', ih fun j hj => hl j (List.mem_cons_of_mem _ hj)]
      rfl
  exact this _ fun i hi => List.mem_range.mp hi
theorem rep_flat {α : Type} (v : α) : ∀ n : Nat, (List.replicate n [v]).flatten = List.replicate n v
  | 0 => rfl
  | n + 1 => by rw [List.replicate_succ, List.replicate_succ, List.flatten_cons, rep_flat v n]; rfl
/-- a list's object that is tracked, at p, new -/
structure NewL (H H' : Hp) (p : Addr) (xs : List V) : Prop where
  new : H p = none
  same : Same H H'
  at_ : H' p = some (.lst xs)
theorem NewL.ext {U H H' : Hp} {p : Addr} {xs : List V} (n : NewL H H' p xs) (s : Same U H) : Ext U H (upd U p (.lst xs)) H' :=
  ⟨same_upd (s.free n.new), fun b u e => by
    by_cases hb : b = p
    · subst hb; rw [upd_same] at e; rw [n.at_]; exact e
    · rw [upd_ne hb] at e; exact n.same _ _ (s b u e), n.same, fun a e => by
    by_cases ha : a = p
    · subst ha; exact Or.inr n.new
    · rw [upd_ne ha] at e; exact Or.inl e⟩
theorem str_app (x y : Str) : (x ++ y).cps.toList = x.cps.toList ++ y.cps.toList := Array.toList_append
theorem str_len_app (x y : Str) : (x ++ y).length = x.length + y.length := by
  show (x ++ y).cps.size = x.cps.size + y.cps.size
  rw [size_eq, str_app, List.length_append, ← size_eq, ← size_eq]
/-! ### _law_cell, _law_row -/
def lawCell (ns : List Int) (k : Nat) : Int :=
  let c := if 0 < ns.length then ns.getD (k % ns.length) 0 else 0
  if c < 0 then 1 - 2 * c else c
theorem lawCell_nn (ns : List Int) (k : Nat) : 0 ≤ lawCell ns k := by
  unfold lawCell
  simp only
  split <;> omega
def lawOne (c : Int) (k : Nat) : Int := (c * 48271 + (k : Int) * 69621 + 12345) % 2147483647
def lawTwo (o : Int) (k : Nat) : Int := (o * o + 16807 * (k : Int) + 7) % 2147483629
def lawRow (ns : List Int) (k : Nat) : Int :=
  if k < ns.length ∧ 1000000000 ≤ lawCell ns k then lawCell ns k
  else (lawTwo (lawOne (lawCell ns k) k) k * lawTwo (lawOne (lawCell ns k) k) k + lawOne (lawCell ns k) k) % 4294967291 + 4294967296 * (lawOne (lawCell ns k) k + 1)
theorem lawOne_b (c : Int) (k : Nat) : 0 ≤ lawOne c k ∧ lawOne c k < 2147483647 := by unfold lawOne; omega
theorem lawTwo_b (c : Int) (k : Nat) : 0 ≤ lawTwo c k ∧ lawTwo c k < 2147483629 := by
  unfold lawTwo
  generalize c * c + 16807 * (k : Int) + 7 = x
  omega
theorem lawRow_nn (ns : List Int) (k : Nat) : 0 ≤ lawRow ns k := by
  unfold lawRow
  have h1 := lawOne_b (lawCell ns k) k
  split
  · exact lawCell_nn ns k
  · generalize lawTwo (lawOne (lawCell ns k) k) k * lawTwo (lawOne (lawCell ns k) k) k + lawOne (lawCell ns k) k = x
    omega
def sp__law_cell (K : PySem.W.Frag) : Sp := fun vs H Q _ => ∃ (a : Addr) (ns : List Int) (k : Nat), vs = [.ref a, .int (k : Int)] ∧ SqL K H a (ns.map V.int) ∧ Q (.int (lawCell ns k)) H
theorem sc__law_cell : FnScope ["script", "k", "cell"] ["script", "k"] (defScope s__law_cell) := ⟨rfl, rfl, rfl, by decide +kernel, rfl, by decide +kernel, by decide +kernel⟩
theorem ok__law_cell (T : Txt K mg A) : FnOk P w K mg base CX0 1 A.f_law_cell A.d_law_cell ["script", "k"] (sp__law_cell K) := by
  refine T.F_law_cell.ok sc__law_cell (fun vs H Q E h => ?_) (fun cdv Ar outer s H vs Q E hr h => ?_)
  · obtain ⟨a, ns, k, rfl, _⟩ := h
    rfl
  · obtain ⟨a, ns, k, rfl, hS, q⟩ := h
    refine ⟨_, (pss_cons (ps_set (i := 2) sc__law_cell.nd rfl (Or.inl rfl) pe_int)
      (pss_cons (ps_if (pt_cmpR op_gt (pe_callB call_len_seq (by rfl) T.len PySem.boot_len (pa_cons (pv 0) pa_nil)) pe_int (nomark _))
      (pss_one (ps_set (i := 2) sc__law_cell.nd rfl (Or.inl rfl) (pe_ix ix_list (pv 0) (pe_op op_mod (pe_callTy call_int1 (by rfl) T.int (by decide +kernel) (pa_cons (pv 1) pa_nil)) (pe_callB call_len_seq (by rfl) T.len PySem.boot_len (pa_cons (pv 0) pa_nil))) (fun _ _ => rfl))))
      pss_nil)
      (pss_cons (ps_if (pt_cmpR op_lt (pv 2) pe_int (nomark _))
      (pss_one (ps_set (i := 2) sc__law_cell.nd rfl (Or.inl rfl) (pe_op op_sub pe_int (pe_op op_mul pe_int (pv 2)))))
      pss_nil)
      (pss_one (ps_ret (pv 2)))))), ?_⟩
    have two : ∀ (c : Int), (if c < 0 then 1 - 2 * c else c) = lawCell ns k → tSeq (tIfS (tTest (tOp (rI0 fun i j => .bl (decide (i < j))) (tVar 2) (tC (.int 0)))) (tAsg (tOp (rI0 fun i j => .int (i - j)) (tC (.int 1)) (tOp (rI CMul fun i j => .int (i * j)) (tC (.int 2)) (tVar 2))) (gName 2)) tNext) (tRet (tVar 2))
        { nx := fun _ H' => Q .non H', rt := Q } [some (.ref a), some (.int (k : Int)), some (.int c)] H := by
      intro c hc
      walk_at "rd"
      refine iteP (fun h => ?_) (fun h => ?_)
      · rw [if_pos h] at hc
        walk_at "rd"
        rw [← hc] at q; exact q
      · rw [if_neg h] at hc
        walk_at "rd"
        rw [← hc] at q; exact q
    refine ⟨.ref a, rfl, a, _, rfl, .inl hS, _, _, rfl, rfl, _, rfl, iteP (fun h => ?_) (fun h => ?_)⟩
    · have h0 : 0 < ns.length := by rw [List.length_map] at h; omega
      refine ⟨_, rfl, _, rfl, Or.inl ⟨_, rfl, ?_⟩⟩
      refine ⟨_, rfl, a, _, rfl, .inl hS, _, _, rfl, rfl, by show (0 : Int) < _; omega, a, _, _, .int (ns.getD (k % ns.length) 0), rfl, rfl, hS, ?_, ?_⟩
      · refine at_of (j := k % ns.length) ?_ ?_
        · rw [List.length_map]; exact (Int.natCast_emod _ _).symm
        · rw [List.getElem?_map, List.getElem?_eq_getElem (Nat.mod_lt _ h0), List.getD_eq_getElem?_getD, List.getElem?_eq_getElem (Nat.mod_lt _ h0)]; rfl
      · refine two _ ?_
        unfold lawCell; rw [if_pos h0]
    · have h0 : ¬ 0 < ns.length := by rw [List.length_map] at h; omega
      refine two _ ?_
      unfold lawCell; rw [if_neg h0]
def sp__law_row (K : PySem.W.Frag) : Sp := fun vs H Q _ => ∃ (a : Addr) (ns : List Int) (k : Nat), vs = [.ref a, .int (k : Int)] ∧ SqL K H a (ns.map V.int) ∧ Q (.int (lawRow ns k)) H
theorem sc__law_row : FnScope ["script", "k", "cell", "one", "two"] ["script", "k"] (defScope s__law_row) := ⟨rfl, rfl, rfl, by decide +kernel, rfl, by decide +kernel, by decide +kernel⟩
theorem ok__law_row (T : Txt K mg A) : FnOk P w K mg base CX0 2 A.f_law_row A.d_law_row ["script", "k"] (sp__law_row K) := by
  refine T.F_law_row.ok sc__law_row (fun vs H Q E h => ?_) (fun cdv Ar outer s H vs Q E hr h => ?_)
  · obtain ⟨a, ns, k, rfl, _⟩ := h
    rfl
  · obtain ⟨a, ns, k, rfl, hS, q⟩ := h
    refine ⟨_, (pss_cons (ps_set (i := 2) sc__law_row.nd rfl (Or.inl rfl) (pe_call (ok__law_cell T) (hr.mono (by decide)) rfl T.g_law_cell T.k_law_cell T.b_law_cell .nil pass0 (pa_cons (pv 0) (pa_cons (pv 1) pa_nil))))
      (pss_cons (ps_if (PW.pt (pw_and (pt_cmpR op_lt (pv 1) (pe_callB call_len_seq (by rfl) T.len PySem.boot_len (pa_cons (pv 0) pa_nil)) (nomark _)) (pw_and1 (pt_cmpR op_ge (pv 2) pe_int (nomark _)))))
      (pss_one (ps_ret (pv 2)))
      pss_nil)
      (pss_cons (ps_set (i := 3) sc__law_row.nd rfl (Or.inl rfl) (pe_op op_mod (pe_callTy call_int1 (by rfl) T.int (by decide +kernel) (pa_cons (pe_op op_add (pe_op op_add (pe_op op_mul (pv 2) pe_int) (pe_op op_mul (pv 1) pe_int)) pe_int) pa_nil)) pe_int))
      (pss_cons (ps_set (i := 4) sc__law_row.nd rfl (Or.inl rfl) (pe_op op_mod (pe_callTy call_int1 (by rfl) T.int (by decide +kernel) (pa_cons (pe_op op_add (pe_op op_add (pe_op op_mul (pv 3) (pv 3)) (pe_op op_mul pe_int (pv 1))) pe_int) pa_nil)) pe_int))
      (pss_one (ps_ret (pe_op op_add (pe_op op_mod (pe_callTy call_int1 (by rfl) T.int (by decide +kernel) (pa_cons (pe_op op_add (pe_op op_mul (pv 4) (pv 4)) (pv 3)) pa_nil)) pe_int) (pe_op op_mul pe_int (pe_op op_add (pv 3) pe_int))))))))), ?_⟩
    have b1 := lawOne_b (lawCell ns k) k
    have b2 := lawTwo_b (lawOne (lawCell ns k) k) k
    have m1 : CMul (lawOne (lawCell ns k) k) (lawOne (lawCell ns k) k) := Or.inl ⟨by omega, by omega⟩
    have m2 : CMul (lawTwo (lawOne (lawCell ns k) k) k) (lawTwo (lawOne (lawCell ns k) k) k) := Or.inl ⟨by omega, by omega⟩
    refine ⟨_, rfl, _, rfl, a, ns, k, rfl, hS, ?_⟩
    refine ⟨_, rfl, _, rfl, a, _, rfl, .inl hS, _, _, rfl, rfl, _, rfl, ?_⟩
    refine iteP (fun h => ?_) (fun h => ?_)
    · refine ⟨_, rfl, _, _, rfl, rfl, _, rfl, iteP (fun h2 => ?_) (fun h2 => ?_)⟩
      · have e : lawRow ns k = lawCell ns k := by unfold lawRow; rw [if_pos ⟨by rw [List.length_map] at h; omega, h2⟩]
        rw [e] at q
        exact ⟨_, rfl, q⟩
      · unfold lawRow at q
        rw [if_neg fun z => h2 z.2] at q
        walk_at "rd"
        refine ⟨m1, ?_⟩
        walk_at "rd"
        refine ⟨m2, ?_⟩
        walk_at "rd"
        exact q
    · unfold lawRow at q
      rw [if_neg fun z => h (by rw [List.length_map]; omega)] at q
      walk_at "rd"
      refine ⟨m1, ?_⟩
      walk_at "rd"
      refine ⟨m2, ?_⟩
      walk_at "rd"
      exact q
/-! ### a word that goes on by itself -/
theorem iteVP {p A B : Prop} [Decidable p] (h1 : p → A) (h2 : ¬ p → B) : if p then A else B := by
  by_cases h : p
  · rw [if_pos h]; exact h1 h
  · rw [if_neg h]; exact h2 h
/-- a new tuple is handed back -/
def RetT (H : Hp) (Q : VK) (xs : List V) : Prop := ∀ p H', Same H H' → H' p = some (.tup xs) → Q (.ref p) H'
theorem RetT.go {H : Hp} {Q : VK} {xs : List V} (h : ∀ p H', Same H H' → H' p = some (.tup xs) → Q (.ref p) H') : RetT H Q xs := h
theorem ne_self {d e : PyData} {A B : Prop} (hs : SeqAt.shaped d = true) (h : d = e) (hB : B) : if (!PyData.eqv d e) = true then A else B := by
  subst h
  have h2 : (d.canLay0 && decide (d.depth ≤ 64)) = true := hs
  have : PyData.eqv d d = true := SeqAt.eqv_refl d (by rw [Bool.and_eq_true] at h2; exact h2.1)
  rw [this]
  exact iteF hB
theorem eq_self {d e : PyData} {A B : Prop} (hs : SeqAt.shaped d = true) (h : d = e) (hA : A) : if PyData.eqv d e = true then A else B := by
  subst h
  have h2 : (d.canLay0 && decide (d.depth ≤ 64)) = true := hs
  have : PyData.eqv d d = true := SeqAt.eqv_refl d (by rw [Bool.and_eq_true] at h2; exact h2.1)
  rw [this]
  exact iteT hA
theorem t_ne {K : PySem.W.Frag} {x y : V} {H : Hp} {Q : VK} {d e : PyData} (h1 : Dp K H x d) (h2 : Dp K H y e) (s1 : SeqAt.shaped d = true) (s2 : SeqAt.shaped e = true) (q : Q (.bl (!PyData.eqv d e)) H) : rNeD K x y H Q := ⟨d, e, h1, h2, s1, s2, q⟩
theorem t_eq {K : PySem.W.Frag} {x y : V} {H : Hp} {Q : VK} {d e : PyData} (h1 : Dp K H x d) (h2 : Dp K H y e) (s1 : SeqAt.shaped d = true) (s2 : SeqAt.shaped e = true) (q : Q (.bl (PyData.eqv d e)) H) : rEqD K x y H Q := ⟨d, e, h1, h2, s1, s2, q⟩
/-! words that go on by themselves -/
local macro_rules | `(tactic| walk_at "sq") => `(tactic| first
  | exact SqT.of upd_same
  | exact SqL.of upd_same
  | assumption
  | exact SqT.of (by assumption)
  | exact SqL.of (by assumption)
  | (apply Same.sqt (same_upd (by assumption)); walk_at "sq")
  | (apply Same.seq (same_upd (by assumption)); walk_at "sq")
  | (apply Same.sqt (by assumption); walk_at "sq")
  | (apply Same.seq (by assumption); walk_at "sq"))
local macro_rules | `(tactic| walk_at "sm") => `(tactic| first
  | exact Same.refl _
  | assumption
  | (apply Same.trans _ (same_upd (by assumption)); walk_at "sm")
  | (apply Same.trans _ (by assumption); walk_at "sm"))
local macro_rules | `(tactic| walk_at "at") => `(tactic| first
  | exact atI_nat (j := 0) rfl
  | exact atI_nat (j := 1) rfl
  | exact atI_nat (j := 2) rfl
  | exact atI_nat (j := 3) rfl
  | exact atI_nat (j := 4) rfl
  | exact atI_nat (j := 5) rfl)
local macro_rules | `(tactic| walk_at "go1") => `(tactic| first
  | refine ⟨_, rfl, ?_⟩
  | refine ⟨_, _, rfl, rfl, ?_⟩
  | refine ⟨rfl, ?_⟩
  | refine Or.inl ⟨_, rfl, ?_⟩
  | refine ⟨(by show (0 : Int) < _; decide), ?_⟩
  | refine ⟨(⟨by decide, by decide⟩ : CDiv _ _), ?_⟩
  | refine ⟨(Or.inl ⟨by decide, by decide⟩ : CMul _ _), ?_⟩
  | refine ⟨(Or.inr ⟨by decide, by decide⟩ : CMul _ _), ?_⟩
  | refine ⟨_, _, rfl, ?_⟩
  | refine ⟨_, _, _, rfl, ?_⟩
  | refine ⟨_, _, _, _, rfl, ?_⟩
  | (refine And.intro (a := (0 : Int) ≤ _) ?_ ?_; focus omega)
  | (refine And.intro (a := _ ≤ sizeLine) ?_ (fun p hp => ?_); (focus (exact len_line (Nat.le_of_ble_eq_true rfl))))
  | refine RetT.go (fun p H' s e => ?_)
  | refine if_t rfl ?_
  | refine if_f rfl ?_
  | refine ⟨_, _, rfl, (by walk_at "sq"), rfl, ?_⟩
  | refine ⟨_, _, rfl, Or.inl (by walk_at "sq"), ?_⟩
  | refine ⟨_, _, rfl, Or.inr (by walk_at "sq"), ?_⟩
  | refine ⟨_, _, _, _, rfl, rfl, (by walk_at "sq"), (by walk_at "at"), ?_⟩
  | refine ⟨_, _, rfl, (by walk_at "sq"), (by show ¬(HT.sIx 4 0 (some 2) = 0 ∧ HT.sIx 4 4 none = 4); decide), fun p hp => ?_⟩
  | refine ⟨_, _, _, _, rfl, rfl, (by walk_at "sq"), (by walk_at "sq"), (by intro h; cases h), len_line (Nat.le_of_ble_eq_true rfl), (fun h => by cases h), fun _ p hp => ?_⟩)
local macro_rules | `(tactic| walk_at "go") => `(tactic| repeat walk_at "go1")
local macro_rules | `(tactic| walk_at "dps") => `(tactic| first
  | exact DpAll.nil
  | (apply DpAll.cons; (focus (walk_at "dp")); (focus (walk_at "dps"))))
local macro_rules | `(tactic| walk_at "dp") => `(tactic| first
  | exact Dp.int _
  | exact Dp.bl _
  | exact Dp.str _
  | exact Dp.non
  | (apply Dp.tup; (focus (walk_at "sq")); (focus (walk_at "dps")))
  | (apply Dp.lst; (focus (walk_at "sq")); (focus (walk_at "dps"))))
local macro_rules | `(tactic| walk_at "sh") => `(tactic| (show (PyData.canLay0 _ && decide (PyData.depth _ ≤ 64)) = true; simp [PyData.canLay0, PyData.canLayAll0, PyData.depth, PyData.depthAll]))
/-- a deep comparison: what is left is the if -/
local macro_rules | `(tactic| walk_at "ne") => `(tactic| (apply t_ne; (focus (walk_at "dp")); (focus (walk_at "dp")); (focus (walk_at "sh")); (focus (walk_at "sh")); refine ⟨_, rfl, ?_⟩))
local macro_rules | `(tactic| walk_at "neS") => `(tactic| (walk_at "ne"; refine ne_self ?_ ?_ ?_; (focus (walk_at "sh"))))
/-! ### more words -/
local macro_rules | `(tactic| walk_at "go2") => `(tactic| first
  | walk_at "go1"
  | refine ⟨(⟨by omega, by omega⟩ : CDiv _ _), ?_⟩
  | refine ⟨(Or.inl ⟨by omega, by omega⟩ : CMul _ _), ?_⟩
  | refine ⟨(Or.inr ⟨by omega, by omega⟩ : CMul _ _), ?_⟩
  | refine ⟨(by show (0 : Int) < _; omega), ?_⟩)
local macro_rules | `(tactic| walk_at "gx") => `(tactic| repeat walk_at "go2")
/-! ### is_integer, number_octets -/
def sp_is_integer (K : PySem.W.Frag) : Sp := fun vs H Q _ => ∃ (i lo hi : Int), vs = [.int i, .int lo, .int hi] ∧ Q (.bl (decide (lo ≤ i ∧ i ≤ hi))) H
theorem sc_is_integer : FnScope ["value", "least", "greatest"] ["value", "least", "greatest"] (defScope s_is_integer) := ⟨rfl, rfl, rfl, by decide +kernel, rfl, by decide +kernel, by decide +kernel⟩
theorem ok_is_integer (T : Txt K mg A) : FnOk P w K mg base CX0 1 A.fis_integer A.dis_integer ["value", "least", "greatest"] (sp_is_integer K) := by
  refine T.Fis_integer.ok sc_is_integer (fun vs H Q E h => ?_) (fun cdv Ar outer s H vs Q E hr h => ?_)
  · obtain ⟨i, lo, hi, rfl, _⟩ := h
    rfl
  · obtain ⟨i, lo, hi, rfl, q⟩ := h
    refine ⟨_, (pss_one (ps_ret (pe_and (pe_callB call_isi (by rfl) T.isinstance (by decide +kernel) (pa_cons (pv 0) (pa_cons (pe_bltn (v := .ty "int") (by rfl) T.int (by decide +kernel) rfl) pa_nil))) (pe_and (pe_not (pe_callB call_isi (by rfl) T.isinstance (by decide +kernel) (pa_cons (pv 0) (pa_cons (pe_bltn (v := .ty "bool") (by rfl) T.bool (by decide +kernel) rfl) pa_nil)))) (pe_one (pe_chain op_le op_le (pv 1) (pv 0) (pv 2))))))), ?_⟩
    refine ⟨_, rfl, .int i, .ty "int", .type "int", .type "int", true, rfl, .ty _, .base (.int _), kit_ty (by decide +kernel), _, rfl, iteT ?_⟩
    refine ⟨_, rfl, .int i, .ty "bool", .type "int", .type "bool", false, rfl, .ty _, .base (.int _), kit_ty (by decide +kernel), _, rfl, _, rfl, iteT ?_⟩
    refine ⟨_, rfl, _, rfl, _, _, rfl, rfl, _, rfl, iteP (fun h => ?_) (fun h => ?_)⟩
    · refine ⟨_, rfl, _, _, rfl, rfl, ?_⟩
      have e : decide (lo ≤ i ∧ i ≤ hi) = decide (i ≤ hi) := by
        by_cases c : i ≤ hi
        · rw [decide_eq_true c, decide_eq_true ⟨h, c⟩]
        · rw [decide_eq_false c, decide_eq_false fun z => c z.2]
      rw [e] at q
      exact q
    · rw [decide_eq_false fun z => h z.1] at q
      exact q
def octs (n : Int) (c : Nat) : List Int := (List.range c).map fun k => n / 2 ^ (8 * k) % 256
theorem octs_len (n : Int) (c : Nat) : (octs n c).length = c := by unfold octs; rw [List.length_map, List.length_range]
theorem octs_succ (n : Int) (c : Nat) : octs n (c + 1) = octs n c ++ [n / 2 ^ (8 * c) % 256] := by
  unfold octs; rw [List.range_succ, List.map_append]; rfl
theorem and255 {x : Int} (h : 0 ≤ x) : Builtin.bitAnd x 255 = x % 256 := Bits.bitAnd_mask 8 h
/-- number_octets(n, c), n not negative, c small: a new list -/
def sp_number_octets (K : PySem.W.Frag) : Sp := fun vs H Q _ => ∃ (n : Int) (c : Nat), vs = [.int n, .int (c : Int)] ∧ 0 ≤ n ∧ c ≤ 1000 ∧
  ∀ p H', H p = none → Same H H' → H' p = some (.lst ((octs n c).map V.int)) → Q (.ref p) H'
theorem sc_number_octets : FnScope ["number", "count", "place"] ["number", "count"] (defScope s_number_octets) := ⟨rfl, rfl, rfl, by decide +kernel, rfl, by decide +kernel, by decide +kernel⟩
theorem ok_number_octets (T : Txt K mg A) : FnOk P w K mg base CX0 1 A.fnumber_octets A.dnumber_octets ["number", "count"] (sp_number_octets K) := by
  refine T.Fnumber_octets.ok sc_number_octets (fun vs H Q E h => ?_) (fun cdv Ar outer s H vs Q E hr h => ?_)
  · obtain ⟨n, c, rfl, _⟩ := h
    rfl
  · obtain ⟨n, c, rfl, hn, hc, q⟩ := h
    refine ⟨_, (pss_one (ps_ret (pe_lc (own := [("place", 2)]) (g := gName 2) (tt := tYes) rfl sc_number_octets.nd (pi_range1 (by rfl) T.range (pa_cons (pv 1) pa_nil)) (blkOk_by (own := [("place", 2)]) (N := ["number", "count", "place"]) (sc := defScope s_number_octets) (by decide +kernel)) (fun _ _ _ _ _ => (pg_name (i := 2) sc_number_octets.nd rfl (Or.inl rfl))) (fun _ _ _ _ _ => pts_nil) (fun _ _ _ _ _ => (pe_op op_and (pe_op op_shr (pv 0) (pe_op op_mul pe_int (pv 2))) pe_int))))), ?_⟩
    refine ⟨_, rfl, (c : Int), rfl, by omega, by omega, fun D hD => ?_⟩
    refine lc_range (lo := 0) (n := ((c : Int)).toNat) (fun i H' => Same H H' ∧ H' D = some (.lst ((octs n i).map V.int))) ⟨same_upd hD, upd_same⟩ ?_ ?_
    · rintro i H1 hi ⟨hs, he⟩
      refine ⟨rfl, _, rfl, _, rfl, _, _, rfl, rfl, Or.inl ⟨by decide, by decide⟩, _, _, rfl, rfl, by show (0 : Int) ≤ _; omega, _, _, rfl, rfl, _, he, ?_, ?_, ?_⟩
      · rw [List.length_map, octs_len]; exact lt_line (by omega)
      · intro b o e
        rw [upd_ne (fun z => by rw [z, hD] at e; cases e)]
        exact hs b o e
      · rw [upd_same, octs_succ, List.map_append]
        have e1 : (8 * (0 + (i : Int))).toNat = 8 * i := by omega
        have e2 : Builtin.bitAnd (n / 2 ^ (8 * (0 + (i : Int))).toNat) 255 = n / 2 ^ (8 * i) % 256 := by
          rw [e1, and255 (Int.ediv_nonneg hn (Int.le_of_lt (Int.pow_pos (by decide))))]
        dsimp only
        rw [e2]
        rfl
    · rintro H1 ⟨hs, he⟩
      rw [show ((c : Int)).toNat = c by omega] at he
      exact q D H1 hD hs he
/-! ### is_text, _padded, _text_octets -/
def codeOk (c : Int) : Bool := decide (32 ≤ c ∧ c ≤ 126 ∧ c ≠ 37)
def isText (s : Str) : Bool := decide ((s.length : Int) ≤ 1000) && s.cps.toList.all (fun c : Nat => codeOk (c : Int))
def codesOf (s : Str) : List Int := s.cps.toList.map fun c : Nat => (c : Int)
def padN (n : Nat) : Nat := (-(n : Int) % 4).toNat
def pad (xs : List Int) : List Int := xs ++ List.replicate (padN xs.length) 0
theorem padN_lt (n : Nat) : padN n < 4 := by unfold padN; omega
theorem pad_len (xs : List Int) : (pad xs).length = xs.length + padN xs.length := by unfold pad; rw [List.length_append, List.length_replicate]
def textOcts (s : Str) : List Int := pad (octs (s.length + 1 : Int) 4 ++ codesOf s ++ [0])
theorem codesOf_len (z : Str) : (codesOf z).length = z.length := by unfold codesOf; rw [List.length_map]; exact (size_eq z).symm
theorem textOcts_len (z : Str) : (textOcts z).length ≤ z.length + 8 := by
  unfold textOcts
  rw [pad_len, List.length_append, List.length_append, octs_len, codesOf_len]
  have := padN_lt (4 + z.length + [(0 : Int)].length)
  show 4 + z.length + 1 + padN (4 + z.length + 1) ≤ _
  have h : padN (4 + z.length + 1) < 4 := padN_lt _
  omega
def sp__is_code (K : PySem.W.Frag) : Sp := fun vs H Q _ => ∃ (c : Int), vs = [.int c] ∧ Q (.bl (codeOk c)) H
theorem sc__is_code : FnScope ["code"] ["code"] (defScope s__is_code) := ⟨rfl, rfl, rfl, by decide +kernel, rfl, by decide +kernel, by decide +kernel⟩
theorem ok__is_code (T : Txt K mg A) : FnOk P w K mg base CX0 1 A.f_is_code A.d_is_code ["code"] (sp__is_code K) := by
  refine T.F_is_code.ok sc__is_code (fun vs H Q E h => ?_) (fun cdv Ar outer s H vs Q E hr h => ?_)
  · obtain ⟨c, rfl, _⟩ := h
    rfl
  · obtain ⟨c, rfl, q⟩ := h
    refine ⟨_, (pss_one (ps_ret (pe_and (pe_chain op_le op_le (pe_glob (v := .int (32)) rfl T.g_FIRST_CODE ⟨_, rfl⟩) (pv 0) (pe_glob (v := .int (126)) rfl T.g_LAST_CODE ⟨_, rfl⟩)) (pe_one (pe_cmpR op_ne (pv 0) (pe_glob (v := .int (37)) rfl T.g_PERCENT_CODE ⟨_, rfl⟩) (nomark _)))))), ?_⟩
    unfold codeOk at q
    refine ⟨_, rfl, _, _, rfl, rfl, _, rfl, iteP (fun h1 => ?_) (fun h1 => ?_)⟩
    · refine ⟨_, _, rfl, rfl, ?_⟩
      by_cases h2 : c ≤ 126
      · refine ⟨_, rfl, if_t (decide_eq_true h2) ⟨_, rfl, rfl, ?_⟩⟩
        by_cases h3 : c = 37
        · rw [decide_eq_false fun z => z.2.2 h3] at q
          rw [decide_eq_true (by rw [h3])]; exact q
        · rw [decide_eq_true ⟨h1, h2, h3⟩] at q
          rw [decide_eq_false fun z => h3 (V.int.inj z)]; exact q
      · refine ⟨_, rfl, if_f (decide_eq_false h2) ?_⟩
        rw [decide_eq_false fun z => h2 z.2.1] at q
        exact q
    · refine ⟨_, rfl, if_f rfl ?_⟩
      rw [decide_eq_false fun z => h1 z.1] at q; exact q
def sp_is_text (K : PySem.W.Frag) : Sp := fun vs H Q _ => ∃ (s : Str), vs = [.str s] ∧ s.length < 100000 ∧ ∀ H', Same H H' → Q (.bl (isText s)) H'
theorem sc_is_text : FnScope ["value", "character"] ["value"] (defScope s_is_text) := ⟨rfl, rfl, rfl, by decide +kernel, rfl, by decide +kernel, by decide +kernel⟩
theorem ok_is_text (T : Txt K mg A) : FnOk P w K mg base CX0 2 A.fis_text A.dis_text ["value"] (sp_is_text K) := by
  refine T.Fis_text.ok sc_is_text (fun vs H Q E h => ?_) (fun cdv Ar outer s H vs Q E hr h => ?_)
  · obtain ⟨c, rfl, _⟩ := h
    rfl
  · obtain ⟨z, rfl, hl, q⟩ := h
    refine ⟨_, (pss_one (ps_ret (pe_and (pe_cmpR op_le (pe_callB call_len_str (by rfl) T.len PySem.boot_len (pa_cons (pv 0) pa_nil)) (pe_glob (v := .int (1000)) rfl T.gLONGEST_TEXT ⟨_, rfl⟩) (nomark _)) (pe_one (pe_callB (cr_all rfl) (by rfl) T.all (by decide +kernel) (pa_cons (pe_lc (own := [("character", 1)]) (g := (gName 1)) (tt := tYes) rfl sc_is_text.nd (pi_str (pv 0)) (blkOk_by (own := [("character", 1)]) (N := ["value", "character"]) (sc := defScope s_is_text) (by decide +kernel)) (fun _ _ _ _ _ => (pg_name (i := 1) sc_is_text.nd rfl (Or.inl rfl))) (fun _ _ _ _ _ => pts_nil) (fun _ _ _ _ _ => by exact (pe_call (ok__is_code T) (hr.mono (by decide)) rfl T.g_is_code T.k_is_code T.b_is_code .nil pass0 (pa_cons (pe_callB call_ord (by rfl) T.ord (by decide +kernel) (pa_cons (pv 1) pa_nil)) pa_nil)))) pa_nil)))))), ?_⟩
    refine ⟨_, rfl, z, rfl, len_line (Nat.le_of_lt hl), _, _, rfl, rfl, _, rfl, iteP (fun h1 => ?_) (fun h1 => ?_)⟩
    · refine ⟨_, rfl, z, rfl, fun D hD => ?_⟩
      refine lc_dp (walk_str (z := z)) (K := K) (V0 := H) (H0 := H) (fun i => (z.cps[i]?).map fun c : Nat => PyData.bool (codeOk (c : Int))) [some (.str z), none] rfl (Same.refl _) hD (by show z.length < 100000; exact hl) (fun _ _ => trivial) (fun i x H H' y => y.1) ?_ ?_
      · rintro i x U H1 hi xx ⟨_, c, hc, rfl⟩ Qy Qn hy _
        refine ⟨rfl, _, rfl, _, rfl, rfl, _, rfl, ?_⟩
        exact hy _ _ _ _ (by rw [hc]; rfl) (Ext.refl xx.vh) (.bl _)
      · rintro U H1 _ xx _ _ dl
        rw [size_eq, show fm (fun i => (z.cps[i]?).map fun c : Nat => PyData.bool (codeOk (c : Int))) z.cps.toList.length = (z.cps.toList.map fun c : Nat => codeOk (c : Int)).map PyData.bool from by
          rw [List.map_map]; exact fm_list _ _ _ rfl _ fun i x hx => by rw [cps_at, hx]; rfl] at dl
        refine ⟨D, _, rfl, xx.vh.seq (dp_boolsL dl), ?_⟩
        have := q _ xx.hh
        unfold isText at this
        rw [decide_eq_true h1, Bool.true_and] at this
        rw [List.all_map]; exact this
    · have := q H (Same.refl H)
      unfold isText at this
      rw [decide_eq_false h1] at this
      exact this
/-- _padded(a list): a new list -/
def sp__padded (K : PySem.W.Frag) : Sp := fun vs H Q _ => ∃ (a : Addr) (xs : List Int), vs = [.ref a] ∧ H a = some (.lst (xs.map V.int)) ∧ xs.length < 90000 ∧ ∀ p H', NewL H H' p ((pad xs).map V.int) → Q (.ref p) H'
theorem sc__padded : FnScope ["octets"] ["octets"] (defScope s__padded) := ⟨rfl, rfl, rfl, by decide +kernel, rfl, by decide +kernel, by decide +kernel⟩
theorem ok__padded (T : Txt K mg A) : FnOk P w K mg base CX0 1 A.f_padded A.d_padded ["octets"] (sp__padded K) := by
  refine T.F_padded.ok sc__padded (fun vs H Q E h => ?_) (fun cdv Ar outer s H vs Q E hr h => ?_)
  · obtain ⟨a, xs, rfl, _⟩ := h
    rfl
  · obtain ⟨a, xs, rfl, ha, hl, q⟩ := h
    refine ⟨_, (pss_one (ps_ret (pe_op op_cat (pv 0) (pe_op op_rep (pe_lst (pa_cons pe_int pa_nil)) (pe_op op_mod (pe_un un_neg (pe_callB call_len_seq (by rfl) T.len PySem.boot_len (pa_cons (pv 0) pa_nil))) pe_int))))), ?_⟩
    refine ⟨_, rfl, by decide, fun p1 n1 => ?_⟩
    have ha1 : (upd H p1 (.lst [.int 0])) a = some (.lst (xs.map V.int)) := by rw [upd_ne (ne_of_none ha n1)]; exact ha
    have e1 : -((xs.map V.int).length : Int) % 4 = (padN xs.length : Int) := by rw [List.length_map]; unfold padN; omega
    have pl := padN_lt xs.length
    refine ⟨_, rfl, a, _, rfl, .inl (SqL.of ha1), _, rfl, _, _, rfl, rfl, by show (0 : Int) < 4; decide, p1, _, _, rfl, rfl, upd_same, ?_, ?_, ?_, fun p2 n2 => ?_⟩
    · omega
    · omega
    · exact len_line (by show 1 * _ ≤ _; omega)
    refine ⟨a, p2, _, _, rfl, rfl, by rw [upd_ne (ne_of_none ha1 n2)]; exact ha1, upd_same, ?_, fun p3 n3 => ?_⟩
    · rw [e1]
      exact len_line (by rw [rep_flat, List.length_map, List.length_replicate]; omega)
    refine q p3 _ ⟨?_, ?_, ?_⟩
    · exact (same_upd n1).free ((same_upd n2).free n3)
    · exact ((same_upd n1).trans (same_upd n2)).trans (same_upd n3)
    · rw [upd_same, e1]
      unfold pad
      rw [List.map_append, show ((padN xs.length : Nat) : Int).toNat = padN xs.length by omega]
      rw [rep_flat, List.map_replicate]
def sp__text_octets (K : PySem.W.Frag) : Sp := fun vs H Q _ => ∃ (s : Str), vs = [.str s] ∧ s.length < 80000 ∧ ∀ p H', NewL H H' p ((textOcts s).map V.int) → Q (.ref p) H'
theorem sc__text_octets : FnScope ["text", "codes", "character"] ["text"] (defScope s__text_octets) := ⟨rfl, rfl, rfl, by decide +kernel, rfl, by decide +kernel, by decide +kernel⟩
theorem ok__text_octets (T : Txt K mg A) : FnOk P w K mg base CX0 2 A.f_text_octets A.d_text_octets ["text"] (sp__text_octets K) := by
  refine T.F_text_octets.ok sc__text_octets (fun vs H Q E h => ?_) (fun cdv Ar outer s H vs Q E hr h => ?_)
  · obtain ⟨z, rfl, _⟩ := h
    rfl
  · obtain ⟨z, rfl, hl, q⟩ := h
    refine ⟨_, (pss_cons (ps_setLc (i := 1) (own := [("character", 2)]) (g := (gName 2)) (tt := tYes) rfl sc__text_octets.nd rfl rfl (sw_true rfl rfl rfl (by decide +kernel)) (pi_str (pv 0)) (blkOk_by (own := [("character", 2)]) (N := ["text", "codes", "character"]) (sc := defScope s__text_octets) (by decide +kernel)) (fun _ _ _ _ _ => (pg_name (i := 2) sc__text_octets.nd rfl (Or.inl rfl))) (fun _ _ _ _ _ => pts_nil) (fun _ _ _ _ _ => by exact (pe_callB call_ord (by rfl) T.ord (by decide +kernel) (pa_cons (pv 2) pa_nil))))
      (pss_one (ps_ret (pe_call (ok__padded T) (hr.mono (by decide)) rfl T.g_padded T.k_padded T.b_padded .nil pass0 (pa_cons (pe_op op_cat (pe_op op_cat (pe_call (ok_number_octets T) (hr.mono (by decide)) rfl T.gnumber_octets T.knumber_octets T.bnumber_octets .nil pass0 (pa_cons (pe_op op_add (pe_callB call_len_seq (by rfl) T.len PySem.boot_len (pa_cons (pv 1) pa_nil)) pe_int) (pa_cons pe_int pa_nil))) (pv 1)) (pe_lst (pa_cons pe_int pa_nil))) pa_nil))))), ?_⟩
    refine ⟨_, rfl, z, rfl, fun D hD => ?_⟩
    refine lc_dp (walk_str (z := z)) (K := K) (V0 := H) (H0 := H) (fun i => (z.cps[i]?).map fun c : Nat => PyData.int (c : Int)) [some (.str z), none, none] rfl (Same.refl _) hD (by show z.length < 100000; omega) (fun _ _ => trivial) (fun i x H H' y => y.1) ?_ ?_
    · rintro i x U H1 hi xx ⟨_, c, hc, rfl⟩ Qy Qn hy _
      refine ⟨rfl, _, rfl, _, rfl, rfl, ?_⟩
      exact hy _ _ _ _ (by rw [hc]; rfl) (Ext.refl xx.vh) (.int _)
    · rintro U H1 xs xx hDU dl _
      rw [size_eq, show fm (fun i => (z.cps[i]?).map fun c : Nat => PyData.int (c : Int)) z.cps.toList.length = (codesOf z).map PyData.int from by
          unfold codesOf; rw [List.map_map]; exact fm_list _ _ _ rfl _ fun i x hx => by rw [cps_at, hx]; rfl] at dl
      have hlc : (codesOf z).length = z.length := by unfold codesOf; rw [List.length_map]; exact (size_eq z).symm
      have exs := dp_intsV dl
      subst exs
      have h1D := xx.vh _ _ hDU
      have ev : ∀ (l : Int), l = z.length → (z.length : Int) + 1 = l + 1 := fun l e => by omega
      refine ⟨_, rfl, D, _, rfl, .inl (SqL.of h1D), _, _, rfl, rfl, _, 4, rfl, ?_, by decide, fun p H2 hp hs he => ?_⟩
      · omega
      have h2D := hs _ _ h1D
      rw [List.length_map, hlc] at he
      refine ⟨_, rfl, p, D, _, _, rfl, rfl, he, h2D, ?_, fun p3 n3 => ?_⟩
      · rw [List.length_map, List.length_map, octs_len, hlc]; exact len_line (by omega)
      refine ⟨by decide, fun p4 n4 => ?_⟩
      refine ⟨p3, p4, _, _, rfl, rfl, by rw [upd_ne (ne_of_none upd_same n4)]; exact upd_same, upd_same, ?_, fun p5 n5 => ?_⟩
      · rw [List.length_append, List.length_map, List.length_map, octs_len, hlc]; exact len_line (by show 4 + z.length + 1 ≤ _; omega)
      refine ⟨p5, octs (z.length + 1 : Int) 4 ++ codesOf z ++ [0], rfl, ?_, ?_, fun p6 H6 n6 => q p6 H6 ?_⟩
      · rw [upd_same, List.map_append, List.map_append]; rfl
      · rw [List.length_append, List.length_append, octs_len, hlc]; show 4 + z.length + 1 < 90000; omega
      · exact ⟨xx.hh.free (hs.free ((same_upd n3).free ((same_upd n4).free ((same_upd n5).free n6.new)))), xx.hh.trans (hs.trans ((same_upd n3).trans ((same_upd n4).trans ((same_upd n5).trans n6.same)))), n6.at_⟩
/-! ### the kinds -/
inductive NumKind : Str → Int → Int → Prop
  | uint : NumKind "uint" 0 4294967295
  | maybe : NumKind "maybe" 0 4294967295
  | int : NumKind "int" (-2147483648) 2147483647
  | object : NumKind "object" 1 4294967295
  | new : NumKind "new" 1 4294967295
inductive AV
  | num (i : Int)
  | txt (s : Str)
  | oct (xs : List Int)
  | bnd (s : Str) (n : Int)
def ArgAt (K : PySem.W.Frag) (H : Hp) (v : V) : AV → Prop
  | .num i => v = .int i
  | .txt s => v = .str s ∧ s.length < 80000
  | .oct xs => ∃ a, v = .ref a ∧ H a = some (.lst (xs.map V.int)) ∧ xs.length < 80000
  | .bnd s n => ∃ a, v = .ref a ∧ SqT K H a [.str s, .int n] ∧ s.length < 80000
theorem ArgAt.to {K : PySem.W.Frag} {H H' : Hp} {v : V} {x : AV} (h : ArgAt K H v x) (s : Same H H') : ArgAt K H' v x := by
  cases x with
  | num i => exact h
  | txt z => exact h
  | oct xs => obtain ⟨a, e, q, l⟩ := h; exact ⟨a, e, s _ _ q, l⟩
  | bnd z n => obtain ⟨a, e, q, l⟩ := h; exact ⟨a, e, s.sqt q, l⟩
def octsOk (xs : List Int) : Bool := decide (xs.length ≤ 16384) && xs.all fun x => decide (0 ≤ x ∧ x ≤ 255)
inductive ArgSpec : Str → AV → Bool → List Int → Prop
  | num {k : Str} {lo hi i : Int} (h : NumKind k lo hi) : ArgSpec k (.num i) (decide (lo ≤ i ∧ i ≤ hi)) (octs (i % 4294967296) 4)
  | txt {s : Str} : ArgSpec "text" (.txt s) (isText s) (textOcts s)
  | oct {xs : List Int} : ArgSpec "octets" (.oct xs) (octsOk xs) (pad (octs xs.length 4 ++ xs))
  | bnd {s : Str} {n : Int} : ArgSpec "bound" (.bnd s n) (isText s && decide (1 ≤ n ∧ n ≤ 4294967295)) (textOcts s ++ octs n 4)
def sp__are_octets (K : PySem.W.Frag) : Sp := fun vs H Q _ => ∃ (a : Addr) (xs : List Int), vs = [.ref a] ∧ H a = some (.lst (xs.map V.int)) ∧ xs.length < 80000 ∧ ∀ H', Same H H' → Q (.bl (octsOk xs)) H'
theorem sc__are_octets : FnScope ["value", "octet"] ["value"] (defScope s__are_octets) := ⟨rfl, rfl, rfl, by decide +kernel, rfl, by decide +kernel, by decide +kernel⟩
theorem ok__are_octets (T : Txt K mg A) : FnOk P w K mg base CX0 2 A.f_are_octets A.d_are_octets ["value"] (sp__are_octets K) := by
  refine T.F_are_octets.ok sc__are_octets (fun vs H Q E h => ?_) (fun cdv Ar outer s H vs Q E hr h => ?_)
  · obtain ⟨a, xs, rfl, _⟩ := h
    rfl
  · obtain ⟨a, xs, rfl, ha, hl, q⟩ := h
    refine ⟨_, (pss_cons (ps_if (PW.pt (pw_or (pt_not (pt_val (pe_callB call_isi (by rfl) T.isinstance (by decide +kernel) (pa_cons (pv 0) (pa_cons (pe_bltn (v := .ty "list") (by rfl) T.list (by decide +kernel) rfl) pa_nil))))) (pw_or1 (pt_cmpR op_gt (pe_callB call_len_seq (by rfl) T.len PySem.boot_len (pa_cons (pv 0) pa_nil)) (pe_glob (v := .int (16384)) rfl T.gMOST_OCTETS ⟨_, rfl⟩) (nomark _)))))
      (pss_one (ps_ret pe_bl))
      pss_nil)
      (pss_one (ps_ret (pe_callB (cr_all rfl) (by rfl) T.all (by decide +kernel) (pa_cons (pe_lc (own := [("octet", 1)]) (g := (gName 1)) (tt := tYes) rfl sc__are_octets.nd (pi_list (pv 0)) (blkOk_by (own := [("octet", 1)]) (N := ["value", "octet"]) (sc := defScope s__are_octets) (by decide +kernel)) (fun _ _ _ _ _ => (pg_name (i := 1) sc__are_octets.nd rfl (Or.inl rfl))) (fun _ _ _ _ _ => pts_nil) (fun _ _ _ _ _ => by exact (pe_call (ok_is_integer T) (hr.mono (by decide)) rfl T.gis_integer T.kis_integer T.bis_integer .nil pass0 (pa_cons (pv 1) (pa_cons pe_int (pa_cons pe_int pa_nil)))))) pa_nil))))), ?_⟩
    refine ⟨_, rfl, .ref a, .ty "list", .type "list", .type "list", true, rfl, .ty _, tyL (K := K) (SqL.of ha), kit_ty (by decide +kernel), _, rfl, if_f rfl ?_⟩
    refine ⟨_, rfl, a, _, rfl, .inl (SqL.of ha), _, _, rfl, rfl, _, rfl, iteP (fun h => ?_) (fun h => ?_)⟩
    · have := q H (Same.refl H)
      unfold octsOk at this
      rw [List.length_map] at h
      rw [decide_eq_false (show ¬ xs.length ≤ 16384 by omega)] at this
      exact this
    · rw [List.length_map] at h
      refine ⟨_, rfl, a, rfl, ⟨_, SqL.of ha⟩, fun D hD => ?_⟩
      refine lc_dp (walk_list (K := K) (a := a) (xs := xs.map V.int)) (K := K) (V0 := H) (H0 := H) (fun i => (xs[i]?).map fun x => PyData.bool (decide (0 ≤ x ∧ x ≤ 255))) [some (.ref a), none] rfl (Same.refl _) hD (by rw [List.length_map]; omega) (fun H' s => s.seq (SqL.of ha)) (fun i x H H' y => y.1) ?_ ?_
      · rintro i x U H1 hi xx ⟨_, hx⟩ Qy Qn hy _
        rw [List.getElem?_map] at hx
        obtain ⟨z, hz, rfl⟩ := Option.map_eq_some_iff.mp hx
        exact ⟨rfl, _, rfl, z, 0, 255, rfl, hy _ _ _ _ (by rw [hz]; rfl) (Ext.refl xx.vh) (.bl _)⟩
      · rintro U H1 _ xx _ _ dl
        rw [List.length_map, show fm (fun i => (xs[i]?).map fun x => PyData.bool (decide (0 ≤ x ∧ x ≤ 255))) xs.length = (xs.map fun x => decide (0 ≤ x ∧ x ≤ 255)).map PyData.bool from by
          rw [List.map_map]; exact fm_list _ _ _ rfl _ fun i x hx => by rw [hx]; rfl] at dl
        refine ⟨D, _, rfl, xx.vh.seq (dp_boolsL dl), ?_⟩
        have := q _ xx.hh
        unfold octsOk at this
        rw [decide_eq_true (show xs.length ≤ 16384 by omega), Bool.true_and] at this
        rw [List.all_map]; exact this
theorem sc__is_of : FnScope ["kind", "value"] ["kind", "value"] (defScope s__is_of) := ⟨rfl, rfl, rfl, by decide +kernel, rfl, by decide +kernel, by decide +kernel⟩
/-- the kinds but bound -/
def sp_is_of0 (K : PySem.W.Frag) : Sp := fun vs H Q _ => ∃ (kind : Str) (v : V) (x : AV) (ok : Bool) (os : List Int), vs = [.str kind, v] ∧ ArgSpec kind x ok os ∧ kind ≠ "bound" ∧ ArgAt K H v x ∧ ∀ H', Same H H' → Q (.bl ok) H'
theorem ok_is_of0 (T : Txt K mg A) : FnOk P w K mg base CX0 3 A.f_is_of A.d_is_of ["kind", "value"] (sp_is_of0 K) := by
  refine T.F_is_of.ok sc__is_of (fun vs H Q E h => ?_) (fun cdv Ar outer s H vs Q E hr h => ?_)
  · obtain ⟨kind, v, x, ok, os, rfl, _⟩ := h
    rfl
  · obtain ⟨kind, v, x, ok, os, rfl, hk, nb, ha, q⟩ := h
    refine ⟨_, (pss_cons (ps_if (PW.pt (pw_or (pt_cmpR op_eq (pv 0) pe_str (nomark _)) (pw_or1 (pt_cmpR op_eq (pv 0) pe_str (nomark _)))))
      (pss_one (ps_ret (pe_call (ok_is_integer T) (hr.mono (by decide)) rfl T.gis_integer T.kis_integer T.bis_integer .nil pass0 (pa_cons (pv 1) (pa_cons pe_int (pa_cons (pe_glob (v := .int (4294967295)) rfl T.gGREATEST_NUMBER ⟨_, rfl⟩) pa_nil))))))
      pss_nil)
      (pss_cons (ps_if (pt_cmpR op_eq (pv 0) pe_str (nomark _))
      (pss_one (ps_ret (pe_call (ok_is_integer T) (hr.mono (by decide)) rfl T.gis_integer T.kis_integer T.bis_integer .nil pass0 (pa_cons (pv 1) (pa_cons (pe_glob (v := .int (-2147483648)) rfl T.gLEAST_INT ⟨_, rfl⟩) (pa_cons (pe_glob (v := .int (2147483647)) rfl T.gGREATEST_INT ⟨_, rfl⟩) pa_nil))))))
      pss_nil)
      (pss_cons (ps_if (PW.pt (pw_or (pt_cmpR op_eq (pv 0) pe_str (nomark _)) (pw_or1 (pt_cmpR op_eq (pv 0) pe_str (nomark _)))))
      (pss_one (ps_ret (pe_call (ok_is_integer T) (hr.mono (by decide)) rfl T.gis_integer T.kis_integer T.bis_integer .nil pass0 (pa_cons (pv 1) (pa_cons pe_int (pa_cons (pe_glob (v := .int (4294967295)) rfl T.gGREATEST_NUMBER ⟨_, rfl⟩) pa_nil))))))
      pss_nil)
      (pss_cons (ps_if (pt_cmpR op_eq (pv 0) pe_str (nomark _))
      (pss_one (ps_ret (pe_and (pe_callB call_isi (by rfl) T.isinstance (by decide +kernel) (pa_cons (pv 1) (pa_cons (pe_bltn (v := .ty "str") (by rfl) T.str (by decide +kernel) rfl) pa_nil))) (pe_one (pe_call (ok_is_text T) (hr.mono (by decide)) rfl T.gis_text T.kis_text T.bis_text .nil pass0 (pa_cons (pv 1) pa_nil))))))
      pss_nil)
      (pss_cons (ps_if (pt_cmpR op_eq (pv 0) pe_str (nomark _))
      (pss_one (ps_ret (pe_call (ok__are_octets T) (hr.mono (by decide)) rfl T.g_are_octets T.k_are_octets T.b_are_octets .nil pass0 (pa_cons (pv 1) pa_nil))))
      pss_nil)
      (pss_one ps_never)))))), ?_⟩
    have q0 := q H (Same.refl H)
    cases hk with
    | num h =>
      rename_i lo hi i
      obtain rfl : v = .int i := ha
      cases h with
      | uint => exact ⟨_, rfl, rfl, _, rfl, if_t (by decide +kernel) (if_t rfl ⟨_, rfl, _, _, _, rfl, q0⟩)⟩
      | maybe => exact ⟨_, rfl, rfl, _, rfl, if_f (by decide +kernel) ⟨_, rfl, rfl, _, rfl, if_t (by decide +kernel) ⟨_, rfl, _, _, _, rfl, q0⟩⟩⟩
      | int =>
        refine ⟨_, rfl, rfl, _, rfl, if_f (by decide +kernel) ⟨_, rfl, rfl, _, rfl, if_f (by decide +kernel) ?_⟩⟩
        exact ⟨_, rfl, rfl, _, rfl, if_t (by decide +kernel) ⟨_, rfl, _, _, _, rfl, q0⟩⟩
      | object =>
        refine ⟨_, rfl, rfl, _, rfl, if_f (by decide +kernel) ⟨_, rfl, rfl, _, rfl, if_f (by decide +kernel) ?_⟩⟩
        refine ⟨_, rfl, rfl, _, rfl, if_f (by decide +kernel) ⟨_, rfl, rfl, _, rfl, if_t (by decide +kernel) (if_t rfl ⟨_, rfl, _, _, _, rfl, q0⟩)⟩⟩
      | new =>
        refine ⟨_, rfl, rfl, _, rfl, if_f (by decide +kernel) ⟨_, rfl, rfl, _, rfl, if_f (by decide +kernel) ?_⟩⟩
        refine ⟨_, rfl, rfl, _, rfl, if_f (by decide +kernel) ⟨_, rfl, rfl, _, rfl, if_f (by decide +kernel) ⟨_, rfl, rfl, _, rfl, if_t (by decide +kernel) ⟨_, rfl, _, _, _, rfl, q0⟩⟩⟩⟩
    | txt =>
      rename_i s
      obtain ⟨rfl, hl⟩ := ha
      refine ⟨_, rfl, rfl, _, rfl, if_f (by decide +kernel) ⟨_, rfl, rfl, _, rfl, if_f (by decide +kernel) ?_⟩⟩
      refine ⟨_, rfl, rfl, _, rfl, if_f (by decide +kernel) ⟨_, rfl, rfl, _, rfl, if_f (by decide +kernel) ⟨_, rfl, rfl, _, rfl, if_f (by decide +kernel) ?_⟩⟩⟩
      refine ⟨_, rfl, rfl, _, rfl, if_t (by decide +kernel) ?_⟩
      exact ⟨_, rfl, .str s, .ty "str", .type "str", .type "str", true, rfl, .ty _, .base (.str _), kit_ty (by decide +kernel), _, rfl, if_t rfl ⟨_, rfl, s, rfl, by omega, q⟩⟩
    | oct =>
      rename_i xs
      obtain ⟨a, rfl, ha, hl⟩ := ha
      refine ⟨_, rfl, rfl, _, rfl, if_f (by decide +kernel) ⟨_, rfl, rfl, _, rfl, if_f (by decide +kernel) ?_⟩⟩
      refine ⟨_, rfl, rfl, _, rfl, if_f (by decide +kernel) ⟨_, rfl, rfl, _, rfl, if_f (by decide +kernel) ⟨_, rfl, rfl, _, rfl, if_f (by decide +kernel) ?_⟩⟩⟩
      refine ⟨_, rfl, rfl, _, rfl, if_f (by decide +kernel) ?_⟩
      exact ⟨_, rfl, rfl, _, rfl, if_t (by decide +kernel) ⟨_, rfl, a, xs, rfl, ha, hl, q⟩⟩
    | bnd => exact absurd rfl nb
def sp__is_bound (K : PySem.W.Frag) : Sp := fun vs H Q _ => ∃ (a : Addr) (s : Str) (n : Int), vs = [.ref a] ∧ SqT K H a [.str s, .int n] ∧ s.length < 80000 ∧ ∀ H', Same H H' → Q (.bl (isText s && decide (1 ≤ n ∧ n ≤ 4294967295))) H'
theorem sc__is_bound : FnScope ["value"] ["value"] (defScope s__is_bound) := ⟨rfl, rfl, rfl, by decide +kernel, rfl, by decide +kernel, by decide +kernel⟩
theorem ok__is_bound (T : Txt K mg A) : FnOk P w K mg base CX0 4 A.f_is_bound A.d_is_bound ["value"] (sp__is_bound K) := by
  refine T.F_is_bound.ok sc__is_bound (fun vs H Q E h => ?_) (fun cdv Ar outer s H vs Q E hr h => ?_)
  · obtain ⟨a, s, n, rfl, _⟩ := h
    rfl
  · obtain ⟨a, z, n, rfl, ha, hl, q⟩ := h
    have ok__is_of : ∀ {A' : Adr} (T : Txt K mg A'), FnOk P w K mg base CX0 3 A'.f_is_of A'.d_is_of ["kind", "value"] (sp_is_of0 K) := fun T => ok_is_of0 T
    refine ⟨_, (pss_cons (ps_if (PW.pt (pw_or (pt_not (pt_val (pe_callB call_isi (by rfl) T.isinstance (by decide +kernel) (pa_cons (pv 0) (pa_cons (pe_bltn (v := .ty "tuple") (by rfl) T.tuple (by decide +kernel) rfl) pa_nil))))) (pw_or1 (pt_cmpR op_ne (pe_callB call_len_seq (by rfl) T.len PySem.boot_len (pa_cons (pv 0) pa_nil)) pe_int (nomark _)))))
      (pss_one (ps_ret pe_bl))
      pss_nil)
      (pss_one (ps_ret (pe_and (pe_call (ok__is_of T) (hr.mono (by decide)) rfl T.g_is_of T.k_is_of T.b_is_of .nil pass0 (pa_cons pe_str (pa_cons (pe_ix (r := rIxT K) ix_tup (pv 0) pe_int (fun _ _ => rfl)) pa_nil))) (pe_one (pe_call (ok__is_of T) (hr.mono (by decide)) rfl T.g_is_of T.k_is_of T.b_is_of .nil pass0 (pa_cons pe_str (pa_cons (pe_ix (r := rIxT K) ix_tup (pv 0) pe_int (fun _ _ => rfl)) pa_nil)))))))), ?_⟩
    refine ⟨_, rfl, .ref a, .ty "tuple", .type "tuple", .type "tuple", true, rfl, .ty _, tyT ha, kit_ty (by decide +kernel), _, rfl, if_f rfl ?_⟩
    refine ⟨_, rfl, a, _, rfl, .inr ha, rfl, _, rfl, if_f rfl ?_⟩
    refine ⟨_, rfl, a, _, 0, .str z, rfl, rfl, ha, atI_nat (j := 0) rfl, "text", .str z, .txt z, isText z, _, rfl, .txt, by decide +kernel, ⟨rfl, hl⟩, fun H' s => ⟨_, rfl, if_b (fun c => ?_) (fun c => ?_)⟩⟩
    · refine ⟨_, rfl, a, _, 1, .int n, rfl, rfl, s.sqt ha, atI_nat (j := 1) rfl, "new", .int n, .num n, _, _, rfl, .num .new, by decide +kernel, rfl, fun H2 s2 => ?_⟩
      have := q H2 (s.trans s2)
      rw [c, Bool.true_and] at this
      exact this
    · have := q H' s
      rw [c, Bool.false_and] at this
      exact this
def sp__is_of (K : PySem.W.Frag) : Sp := fun vs H Q _ => ∃ (kind : Str) (v : V) (x : AV) (ok : Bool) (os : List Int), vs = [.str kind, v] ∧ ArgSpec kind x ok os ∧ ArgAt K H v x ∧ ∀ H', Same H H' → Q (.bl ok) H'
theorem ok__is_of (T : Txt K mg A) : FnOk P w K mg base CX0 5 A.f_is_of A.d_is_of ["kind", "value"] (sp__is_of K) := by
  refine T.F_is_of.ok sc__is_of (fun vs H Q E h => ?_) (fun cdv Ar outer s H vs Q E hr h => ?_)
  · obtain ⟨kind, v, x, ok, os, rfl, _⟩ := h
    rfl
  · obtain ⟨kind, v, x, ok, os, rfl, hk, ha, q⟩ := h
    refine ⟨_, (pss_cons (ps_if (PW.pt (pw_or (pt_cmpR op_eq (pv 0) pe_str (nomark _)) (pw_or1 (pt_cmpR op_eq (pv 0) pe_str (nomark _)))))
      (pss_one (ps_ret (pe_call (ok_is_integer T) (hr.mono (by decide)) rfl T.gis_integer T.kis_integer T.bis_integer .nil pass0 (pa_cons (pv 1) (pa_cons pe_int (pa_cons (pe_glob (v := .int (4294967295)) rfl T.gGREATEST_NUMBER ⟨_, rfl⟩) pa_nil))))))
      pss_nil)
      (pss_cons (ps_if (pt_cmpR op_eq (pv 0) pe_str (nomark _))
      (pss_one (ps_ret (pe_call (ok_is_integer T) (hr.mono (by decide)) rfl T.gis_integer T.kis_integer T.bis_integer .nil pass0 (pa_cons (pv 1) (pa_cons (pe_glob (v := .int (-2147483648)) rfl T.gLEAST_INT ⟨_, rfl⟩) (pa_cons (pe_glob (v := .int (2147483647)) rfl T.gGREATEST_INT ⟨_, rfl⟩) pa_nil))))))
      pss_nil)
      (pss_cons (ps_if (PW.pt (pw_or (pt_cmpR op_eq (pv 0) pe_str (nomark _)) (pw_or1 (pt_cmpR op_eq (pv 0) pe_str (nomark _)))))
      (pss_one (ps_ret (pe_call (ok_is_integer T) (hr.mono (by decide)) rfl T.gis_integer T.kis_integer T.bis_integer .nil pass0 (pa_cons (pv 1) (pa_cons pe_int (pa_cons (pe_glob (v := .int (4294967295)) rfl T.gGREATEST_NUMBER ⟨_, rfl⟩) pa_nil))))))
      pss_nil)
      (pss_cons (ps_if (pt_cmpR op_eq (pv 0) pe_str (nomark _))
      (pss_one (ps_ret (pe_and (pe_callB call_isi (by rfl) T.isinstance (by decide +kernel) (pa_cons (pv 1) (pa_cons (pe_bltn (v := .ty "str") (by rfl) T.str (by decide +kernel) rfl) pa_nil))) (pe_one (pe_call (ok_is_text T) (hr.mono (by decide)) rfl T.gis_text T.kis_text T.bis_text .nil pass0 (pa_cons (pv 1) pa_nil))))))
      pss_nil)
      (pss_cons (ps_if (pt_cmpR op_eq (pv 0) pe_str (nomark _))
      (pss_one (ps_ret (pe_call (ok__are_octets T) (hr.mono (by decide)) rfl T.g_are_octets T.k_are_octets T.b_are_octets .nil pass0 (pa_cons (pv 1) pa_nil))))
      pss_nil)
      (pss_one (ps_ret (pe_and (pe_cmpR op_eq (pv 0) pe_str (nomark _)) (pe_one (pe_call (ok__is_bound T) (hr.mono (by decide)) rfl T.g_is_bound T.k_is_bound T.b_is_bound .nil pass0 (pa_cons (pv 1) pa_nil))))))))))), ?_⟩
    have q0 := q H (Same.refl H)
    cases hk with
    | num h =>
      rename_i lo hi i
      obtain rfl : v = .int i := ha
      cases h with
      | uint => exact ⟨_, rfl, rfl, _, rfl, if_t (by decide +kernel) (if_t rfl ⟨_, rfl, _, _, _, rfl, q0⟩)⟩
      | maybe => exact ⟨_, rfl, rfl, _, rfl, if_f (by decide +kernel) ⟨_, rfl, rfl, _, rfl, if_t (by decide +kernel) ⟨_, rfl, _, _, _, rfl, q0⟩⟩⟩
      | int =>
        refine ⟨_, rfl, rfl, _, rfl, if_f (by decide +kernel) ⟨_, rfl, rfl, _, rfl, if_f (by decide +kernel) ?_⟩⟩
        exact ⟨_, rfl, rfl, _, rfl, if_t (by decide +kernel) ⟨_, rfl, _, _, _, rfl, q0⟩⟩
      | object =>
        refine ⟨_, rfl, rfl, _, rfl, if_f (by decide +kernel) ⟨_, rfl, rfl, _, rfl, if_f (by decide +kernel) ?_⟩⟩
        refine ⟨_, rfl, rfl, _, rfl, if_f (by decide +kernel) ⟨_, rfl, rfl, _, rfl, if_t (by decide +kernel) (if_t rfl ⟨_, rfl, _, _, _, rfl, q0⟩)⟩⟩
      | new =>
        refine ⟨_, rfl, rfl, _, rfl, if_f (by decide +kernel) ⟨_, rfl, rfl, _, rfl, if_f (by decide +kernel) ?_⟩⟩
        refine ⟨_, rfl, rfl, _, rfl, if_f (by decide +kernel) ⟨_, rfl, rfl, _, rfl, if_f (by decide +kernel) ⟨_, rfl, rfl, _, rfl, if_t (by decide +kernel) ⟨_, rfl, _, _, _, rfl, q0⟩⟩⟩⟩
    | txt =>
      rename_i s
      obtain ⟨rfl, hl⟩ := ha
      refine ⟨_, rfl, rfl, _, rfl, if_f (by decide +kernel) ⟨_, rfl, rfl, _, rfl, if_f (by decide +kernel) ?_⟩⟩
      refine ⟨_, rfl, rfl, _, rfl, if_f (by decide +kernel) ⟨_, rfl, rfl, _, rfl, if_f (by decide +kernel) ⟨_, rfl, rfl, _, rfl, if_f (by decide +kernel) ?_⟩⟩⟩
      refine ⟨_, rfl, rfl, _, rfl, if_t (by decide +kernel) ?_⟩
      exact ⟨_, rfl, .str s, .ty "str", .type "str", .type "str", true, rfl, .ty _, .base (.str _), kit_ty (by decide +kernel), _, rfl, if_t rfl ⟨_, rfl, s, rfl, by omega, q⟩⟩
    | oct =>
      rename_i xs
      obtain ⟨a, rfl, ha, hl⟩ := ha
      refine ⟨_, rfl, rfl, _, rfl, if_f (by decide +kernel) ⟨_, rfl, rfl, _, rfl, if_f (by decide +kernel) ?_⟩⟩
      refine ⟨_, rfl, rfl, _, rfl, if_f (by decide +kernel) ⟨_, rfl, rfl, _, rfl, if_f (by decide +kernel) ⟨_, rfl, rfl, _, rfl, if_f (by decide +kernel) ?_⟩⟩⟩
      refine ⟨_, rfl, rfl, _, rfl, if_f (by decide +kernel) ?_⟩
      exact ⟨_, rfl, rfl, _, rfl, if_t (by decide +kernel) ⟨_, rfl, a, xs, rfl, ha, hl, q⟩⟩
    | bnd =>
      rename_i z n
      obtain ⟨a, rfl, ha, hl⟩ := ha
      refine ⟨_, rfl, rfl, _, rfl, if_f (by decide +kernel) ⟨_, rfl, rfl, _, rfl, if_f (by decide +kernel) ?_⟩⟩
      refine ⟨_, rfl, rfl, _, rfl, if_f (by decide +kernel) ⟨_, rfl, rfl, _, rfl, if_f (by decide +kernel) ⟨_, rfl, rfl, _, rfl, if_f (by decide +kernel) ?_⟩⟩⟩
      refine ⟨_, rfl, rfl, _, rfl, if_f (by decide +kernel) ?_⟩
      refine ⟨_, rfl, rfl, _, rfl, if_f (by decide +kernel) ?_⟩
      exact ⟨_, rfl, rfl, _, rfl, if_t (by decide +kernel) ⟨_, rfl, a, z, n, rfl, ha, hl, q⟩⟩
/-- field_octets: a new list, or BadMessage -/
def sp_field_octets (K : PySem.W.Frag) (C : Addr) : Sp := fun vs H Q E => ∃ (kind : Str) (v : V) (x : AV) (ok : Bool) (os : List Int), vs = [.str kind, v] ∧ ArgSpec kind x ok os ∧ ArgAt K H v x ∧
  (ok = true → ∀ p H', NewL H H' p (os.map V.int) → Q (.ref p) H') ∧ (ok = false → ∀ H', Same H H' → E (.ref C) none H')
theorem sc_field_octets : FnScope ["kind", "value", "text", "number"] ["kind", "value"] (defScope s_field_octets) := ⟨rfl, rfl, rfl, by decide +kernel, rfl, by decide +kernel, by decide +kernel⟩
theorem ok_field_octets (T : Txt K mg A) : FnOk P w K mg base (L2.CX P w) 6 A.ffield_octets A.dfield_octets ["kind", "value"] (sp_field_octets K A.CBadMessage) := by
  refine T.Ffield_octets.okX sc_field_octets (fun vs H Q E h => ?_) (fun cdv Ar outer s H vs Q E hr h => ?_)
  · obtain ⟨kind, v, x, ok, os, rfl, _⟩ := h
    rfl
  · obtain ⟨kind, v, x, ok, os, rfl, hk, ha, q, e⟩ := h
    refine ⟨_, (pss_cons (ps_if (pt_not (pt_val (pe_call (ok__is_of T) (hr.mono (by decide)) rfl T.g_is_of T.k_is_of T.b_is_of .nil pass0 (pa_cons (pv 0) (pa_cons (pv 1) pa_nil)))))
      (pss_one (ps_raise rfl (takes_of rfl rfl rfl rfl) (pmk_own PySem.F.excBase_ValueError T.xBadMessage T.gBadMessage T.kBadMessage (raises_own T.bxBadMessage T.txBadMessage) rfl)))
      pss_nil)
      (pss_cons (ps_if (pt_cmpR op_eq (pv 0) pe_str (nomark _))
      (pss_one (ps_ret (pe_call (ok__text_octets T) (hr.mono (by decide)) rfl T.g_text_octets T.k_text_octets T.b_text_octets .nil pass0 (pa_cons (pv 1) pa_nil))))
      pss_nil)
      (pss_cons (ps_if (pt_cmpR op_eq (pv 0) pe_str (nomark _))
      (pss_one (ps_ret (pe_call (ok__padded T) (hr.mono (by decide)) rfl T.g_padded T.k_padded T.b_padded .nil pass0 (pa_cons (pe_op op_cat (pe_call (ok_number_octets T) (hr.mono (by decide)) rfl T.gnumber_octets T.knumber_octets T.bnumber_octets .nil pass0 (pa_cons (pe_callB call_len_seq (by rfl) T.len PySem.boot_len (pa_cons (pv 1) pa_nil)) (pa_cons pe_int pa_nil))) (pv 1)) pa_nil))))
      pss_nil)
      (pss_cons (ps_if (pt_cmpR op_eq (pv 0) pe_str (nomark _))
      (pss_cons (ps_asg (pv 1) (pg_tup rfl (pgs_cons (pg_name (i := 2) sc_field_octets.nd rfl (Or.inl rfl)) (pgs_cons (pg_name (i := 3) sc_field_octets.nd rfl (Or.inl rfl)) pgs_nil))))
      (pss_one (ps_ret (pe_op op_cat (pe_call (ok__text_octets T) (hr.mono (by decide)) rfl T.g_text_octets T.k_text_octets T.b_text_octets .nil pass0 (pa_cons (pv 2) pa_nil)) (pe_call (ok_number_octets T) (hr.mono (by decide)) rfl T.gnumber_octets T.knumber_octets T.bnumber_octets .nil pass0 (pa_cons (pv 3) (pa_cons pe_int pa_nil)))))))
      pss_nil)
      (pss_one (ps_ret (pe_call (ok_number_octets T) (hr.mono (by decide)) rfl T.gnumber_octets T.knumber_octets T.bnumber_octets .nil pass0 (pa_cons (pe_op op_mod (pv 1) (pe_op op_pow pe_int pe_int)) (pa_cons pe_int pa_nil))))))))), ?_⟩
    refine ⟨_, rfl, _, rfl, kind, v, x, ok, os, rfl, hk, ha, fun H1 s1 => ⟨_, rfl, if_b (fun c => ?_) (fun c => ?_)⟩⟩
    · refine e ?_ H1 s1
      cases ok
      · rfl
      · cases c
    have hok : ok = true := by cases ok; · cases c
                               · rfl
    replace q : ∀ p H', NewL H H' p (os.map V.int) → Q (.ref p) H' := q hok
    replace ha := ha.to s1
    clear e c
    cases hk with
    | num h =>
      rename_i lo hi i
      obtain rfl : v = .int i := ha
      have hne : kind ≠ "text" ∧ kind ≠ "octets" ∧ kind ≠ "bound" := by cases h <;> exact ⟨by decide +kernel, by decide +kernel, by decide +kernel⟩
      refine ⟨_, rfl, rfl, _, rfl, if_f (decide_eq_false fun z => hne.1 (V.str.inj z)) ?_⟩
      refine ⟨_, rfl, rfl, _, rfl, if_f (decide_eq_false fun z => hne.2.1 (V.str.inj z)) ?_⟩
      refine ⟨_, rfl, rfl, _, rfl, if_f (decide_eq_false fun z => hne.2.2 (V.str.inj z)) ?_⟩
      refine ⟨_, rfl, _, _, rfl, rfl, ⟨by decide, by decide, by decide⟩, _, _, rfl, rfl, by show (0 : Int) < 2 ^ (32 : Int).toNat; decide +kernel, ?_⟩
      have e2 : i % 2 ^ (32 : Int).toNat = i % 4294967296 := by rw [show (2 : Int) ^ (32 : Int).toNat = 4294967296 by decide +kernel]
      refine ⟨_, 4, rfl, ?_, by decide, ?_⟩
      · rw [e2]; omega
      · rw [e2]; exact fun p H' hp hs he => q p H' ⟨s1.free hp, s1.trans hs, he⟩
    | txt =>
      rename_i z
      obtain ⟨rfl, hl⟩ := ha
      refine ⟨_, rfl, rfl, _, rfl, if_t (by decide +kernel) ⟨_, rfl, z, rfl, hl, fun p H' n => q p H' ⟨s1.free n.new, s1.trans n.same, n.at_⟩⟩⟩
    | oct =>
      rename_i xs
      obtain ⟨a, rfl, ha, hl⟩ := ha
      refine ⟨_, rfl, rfl, _, rfl, if_f (by decide +kernel) ⟨_, rfl, rfl, _, rfl, if_t (by decide +kernel) ?_⟩⟩
      refine ⟨_, rfl, a, _, rfl, .inl (SqL.of ha), _, 4, rfl, by omega, by decide, fun p H2 hp hs he => ?_⟩
      rw [List.length_map] at he
      refine ⟨_, rfl, p, a, _, _, rfl, rfl, he, hs _ _ ha, ?_, fun p3 n3 => ?_⟩
      · rw [List.length_map, List.length_map, octs_len]; exact len_line (by omega)
      refine ⟨p3, octs xs.length 4 ++ xs, rfl, by rw [upd_same, List.map_append], by rw [List.length_append, octs_len]; omega, fun p4 H4 n4 => q p4 H4 ?_⟩
      exact ⟨s1.free (hs.free ((same_upd n3).free n4.new)), s1.trans (hs.trans ((same_upd n3).trans n4.same)), n4.at_⟩
    | bnd =>
      rename_i z n
      obtain ⟨a, rfl, ha, hl⟩ := ha
      refine ⟨_, rfl, rfl, _, rfl, if_f (by decide +kernel) ⟨_, rfl, rfl, _, rfl, if_f (by decide +kernel) ⟨_, rfl, rfl, _, rfl, if_t (by decide +kernel) ?_⟩⟩⟩
      refine ⟨_, rfl, a, _, rfl, ha, rfl, _, _, rfl, _, _, rfl, rfl, ?_⟩
      refine ⟨_, rfl, z, rfl, hl, fun p2 H2 n2 => ?_⟩
      refine ⟨_, rfl, n, 4, rfl, ?_, by decide, fun p3 H3 n3 s3 e3 => ?_⟩
      · have h2 := (Bool.and_eq_true_iff.mp hok).2
        have h3 := of_decide_eq_true h2
        omega
      refine ⟨p2, p3, _, _, rfl, rfl, s3 _ _ n2.at_, e3, ?_, fun p4 n4 => q p4 _ ⟨?_, ?_, ?_⟩⟩
      · rw [List.length_map, List.length_map, octs_len]; have := textOcts_len z; exact len_line (by omega)
      · exact s1.free (n2.same.free (s3.free n4))
      · exact s1.trans (n2.same.trans (s3.trans (same_upd n4)))
      · rw [upd_same, List.map_append]
/-! ### arguments: kind, value, octets -/
structure Arg where
  kind : Str
  val : AV
  os : List Int
def bodyOf (args : List Arg) : List Int := args.flatMap Arg.os
theorem body_take {args : List Arg} {i : Nat} {g : Arg} (h : args[i]? = some g) : bodyOf (args.take (i + 1)) = bodyOf (args.take i) ++ g.os := fl_take' Arg.os args i g h
theorem body_le (args : List Arg) (i : Nat) : (bodyOf (args.take i)).length ≤ (bodyOf args).length := fl_le' Arg.os args i
theorem body_len_le {args : List Arg} {c : Nat} (h : ∀ g ∈ args, g.os.length ≤ c) : (bodyOf args).length ≤ c * args.length := by
  induction args with
  | nil => exact Nat.zero_le _
  | cons g r ih =>
    show (g.os ++ bodyOf r).length ≤ c * (r.length + 1)
    rw [List.length_append, Nat.mul_succ]
    have := ih fun x hx => h x (List.mem_cons_of_mem _ hx)
    have := h g List.mem_cons_self
    omega
/-! ### encode_message -/
/-- the list of the arguments, all of them of their kinds -/
structure ArgsAt (K : PySem.W.Frag) (H : Hp) (a : Addr) (args : List Arg) : Prop where
  ex : ∃ xs : List V, SqL K H a xs ∧ xs.length = args.length ∧ ∀ (i : Nat) (x : V), xs[i]? = some x → ∃ (g : Arg) (t : Addr) (v : V), args[i]? = some g ∧ x = .ref t ∧ SqT K H t [.str g.kind, v] ∧ ArgAt K H v g.val
  ok : ∀ g ∈ args, ArgSpec g.kind g.val true g.os
theorem ArgsAt.to {K : PySem.W.Frag} {H H' : Hp} {a : Addr} {args : List Arg} (h : ArgsAt K H a args) (s : Same H H') : ArgsAt K H' a args := by
  obtain ⟨xs, h1, h2, h3⟩ := h.ex
  refine ⟨⟨xs, s.seq h1, h2, fun i x hx => ?_⟩, h.ok⟩
  obtain ⟨g, t, v, e1, e2, e3, e4⟩ := h3 i x hx
  exact ⟨g, t, v, e1, e2, s.sqt e3, e4.to s⟩
def msgOcts (n o : Int) (body : List Int) : List Int := octs n 4 ++ octs o 2 ++ octs ((8 + body.length : Nat) : Int) 2 ++ body
def encBad (n o : Int) (args : List Arg) : Prop := ¬ (1 ≤ n ∧ n ≤ 4294967295) ∨ ¬ (0 ≤ o ∧ o ≤ 65535) ∨ 20 < args.length
def encLong (args : List Arg) : Prop := 20480 < 8 + (bodyOf args).length
def sp_encode_message (K : PySem.W.Frag) (B L : Addr) : Sp := fun vs H Q E => ∃ (n o : Int) (a : Addr) (args : List Arg), vs = [.int n, .int o, .ref a] ∧ ArgsAt K H a args ∧ (bodyOf args).length < 60000 ∧ args.length < 60000 ∧
  (encBad n o args → ∀ H', Same H H' → E (.ref B) none H') ∧ (¬ encBad n o args → encLong args → ∀ H', Same H H' → E (.ref L) none H') ∧
  (¬ encBad n o args → ¬ encLong args → ∀ p H', NewL H H' p ((msgOcts n o (bodyOf args)).map V.int) → Q (.ref p) H')
theorem sc_encode_message : FnScope ["number", "opcode", "arguments", "body", "kind", "value", "size"] ["number", "opcode", "arguments"] (defScope s_encode_message) := ⟨rfl, rfl, rfl, by decide +kernel, rfl, by decide +kernel, by decide +kernel⟩
theorem ok_encode_message (T : Txt K mg A) : FnOk P w K mg base (L2.CX P w) 7 A.fencode_message A.dencode_message ["number", "opcode", "arguments"] (sp_encode_message K A.CBadMessage A.CMessageTooLong) := by
  refine T.Fencode_message.okX sc_encode_message (fun vs H Q E h => ?_) (fun cdv Ar outer s H vs Q E hr h => ?_)
  · obtain ⟨n, o, a, args, rfl, _⟩ := h
    rfl
  · obtain ⟨n, o, a, args, rfl, hA, hb, hl, qb, ql, q⟩ := h
    obtain ⟨xs, hS, hxl, hx⟩ := hA.ex
    refine ⟨_, (pss_cons (ps_if (pt_not (pt_val (pe_call (ok_is_integer T) (hr.mono (by decide)) rfl T.gis_integer T.kis_integer T.bis_integer .nil pass0 (pa_cons (pv 0) (pa_cons pe_int (pa_cons (pe_glob (v := .int (4294967295)) rfl T.gGREATEST_NUMBER ⟨_, rfl⟩) pa_nil))))))
      (pss_one (ps_raise rfl (takes_of rfl rfl rfl rfl) (pmk_own PySem.F.excBase_ValueError T.xBadMessage T.gBadMessage T.kBadMessage (raises_own T.bxBadMessage T.txBadMessage) rfl)))
      pss_nil)
      (pss_cons (ps_if (pt_not (pt_val (pe_call (ok_is_integer T) (hr.mono (by decide)) rfl T.gis_integer T.kis_integer T.bis_integer .nil pass0 (pa_cons (pv 1) (pa_cons pe_int (pa_cons (pe_glob (v := .int (65535)) rfl T.gGREATEST_OPCODE ⟨_, rfl⟩) pa_nil))))))
      (pss_one (ps_raise rfl (takes_of rfl rfl rfl rfl) (pmk_own PySem.F.excBase_ValueError T.xBadMessage T.gBadMessage T.kBadMessage (raises_own T.bxBadMessage T.txBadMessage) rfl)))
      pss_nil)
      (pss_cons (ps_if (pt_cmpR op_gt (pe_callB call_len_seq (by rfl) T.len PySem.boot_len (pa_cons (pv 2) pa_nil)) (pe_glob (v := .int (20)) rfl T.gMOST_ARGUMENTS ⟨_, rfl⟩) (nomark _))
      (pss_one (ps_raise rfl (takes_of rfl rfl rfl rfl) (pmk_own PySem.F.excBase_ValueError T.xBadMessage T.gBadMessage T.kBadMessage (raises_own T.bxBadMessage T.txBadMessage) rfl)))
      pss_nil)
      (pss_cons (ps_set (i := 3) sc_encode_message.nd rfl (Or.inl rfl) (pe_lst pa_nil))
      (pss_cons (ps_for (passes_of rfl) rfl (pi_list (pv 2)) (pg_tup rfl (pgs_cons (pg_name (i := 4) sc_encode_message.nd rfl (Or.inl rfl)) (pgs_cons (pg_name (i := 5) sc_encode_message.nd rfl (Or.inl rfl)) pgs_nil)))
      (pss_one (ps_expr (pe_bm PySem.F.plainAttrs_list PySem.F.slot_list_extend PySem.F.type_list_extend mt_extend (pv 3) (pa_cons (pe_call (ok_field_octets T) (hr.mono (by decide)) rfl T.gfield_octets T.kfield_octets T.bfield_octets .nil (passes_call (takes_of rfl rfl rfl rfl) (fun _ _ _ _ h => h)) (pa_cons (pv 4) (pa_cons (pv 5) pa_nil))) pa_nil)))))
      (pss_cons (ps_set (i := 6) sc_encode_message.nd rfl (Or.inl rfl) (pe_op op_add (pe_glob (v := .int (8)) rfl T.gHEADER_SIZE ⟨_, rfl⟩) (pe_callB call_len_seq (by rfl) T.len PySem.boot_len (pa_cons (pv 3) pa_nil))))
      (pss_cons (ps_if (pt_cmpR op_gt (pv 6) (pe_glob (v := .int (20480)) rfl T.gGREATEST_SIZE ⟨_, rfl⟩) (nomark _))
      (pss_one (ps_raise rfl (takes_of rfl rfl rfl rfl) (pmk_own PySem.F.excBase_ValueError T.xMessageTooLong T.gMessageTooLong T.kMessageTooLong (raises_own T.bxMessageTooLong T.txMessageTooLong) rfl)))
      pss_nil)
      (pss_one (ps_ret (pe_op op_cat (pe_op op_cat (pe_op op_cat (pe_call (ok_number_octets T) (hr.mono (by decide)) rfl T.gnumber_octets T.knumber_octets T.bnumber_octets .nil pass0 (pa_cons (pv 0) (pa_cons pe_int pa_nil))) (pe_call (ok_number_octets T) (hr.mono (by decide)) rfl T.gnumber_octets T.knumber_octets T.bnumber_octets .nil pass0 (pa_cons (pv 1) (pa_cons pe_int pa_nil)))) (pe_call (ok_number_octets T) (hr.mono (by decide)) rfl T.gnumber_octets T.knumber_octets T.bnumber_octets .nil pass0 (pa_cons (pv 6) (pa_cons pe_int pa_nil)))) (pv 3))))))))))), ?_⟩
    refine ⟨_, rfl, n, 1, 4294967295, rfl, _, rfl, iteN (fun c => qb (Or.inl c) H (Same.refl H)) (fun c1 => ?_)⟩
    refine ⟨_, rfl, o, 0, 65535, rfl, _, rfl, iteN (fun c => qb (Or.inr (Or.inl c)) H (Same.refl H)) (fun c2 => ?_)⟩
    refine ⟨_, rfl, a, _, rfl, .inl hS, _, _, rfl, rfl, _, rfl, iteP (fun c => qb (Or.inr (Or.inr (by omega))) H (Same.refl H)) (fun c3 => ?_)⟩
    have nb : ¬ encBad n o args := fun z => by
      rcases z with z | z | z
      · exact z c1
      · exact z c2
      · omega
    refine ⟨by decide, fun p hp => ?_⟩
    refine ⟨_, rfl, a, rfl, ⟨_, (same_upd hp).seq hS⟩, for_list (K := K) (a := a) (xs := xs) (fun i σ H' => ∃ v4 v5 : Option V, σ = [some (.int n), some (.int o), some (.ref a), some (.ref p), v4, v5, none] ∧ Same H H' ∧ H' p = some (.lst ((bodyOf (args.take i)).map V.int)))
      ⟨_, _, rfl, same_upd hp, upd_same⟩ (fun i σ H' _ ⟨_, _, _, s, _⟩ => s.seq hS) ?_ ?_⟩
    · rintro i x σ H1 hi ⟨v4, v5, rfl, s1, e1⟩
      obtain ⟨g, t, v, hg, rfl, ht, hv⟩ := hx i x hi
      refine ⟨t, _, rfl, s1.sqt ht, rfl, _, _, rfl, _, _, rfl, rfl, ?_⟩
      refine ⟨_, rfl, .inl ⟨rfl, _, SqL.of e1⟩, ?_⟩
      refine ⟨_, rfl, _, rfl, g.kind, v, g.val, true, g.os, rfl, hA.ok g (List.mem_of_getElem? hg), hv.to s1, fun _ p2 H2 n2 => ?_, fun z => nomatch z⟩
      have e2 := n2.same _ _ e1
      have hbt := body_take hg
      have hbl := body_le args (i + 1)
      rw [hbt, List.length_append] at hbl
      refine ⟨p, p2, _, _, rfl, rfl, e2, n2.at_, ?_, ?_⟩
      · rw [List.length_map, List.length_map]; exact len_line (by omega)
      refine ⟨_, _, rfl, fun b u e => ?_, ?_⟩
      · rw [upd_ne (ne_of_none e hp)]; exact n2.same _ _ (s1 b u e)
      · rw [upd_same, hbt, List.map_append]
    · rintro σ H1 ⟨v4, v5, rfl, s1, e1⟩
      rw [hxl, List.take_length] at e1
      refine ⟨_, rfl, p, _, rfl, .inl (SqL.of e1), _, _, rfl, rfl, ?_⟩
      rw [List.length_map]
      have ec : (8 : Int) + ((bodyOf args).length : Int) = ((8 + (bodyOf args).length : Nat) : Int) := by omega
      refine ⟨_, rfl, _, _, rfl, rfl, _, rfl, iteP (fun c => ?_) (fun c => ?_)⟩
      · exact ql nb (by show 20480 < _; have : (20480 : Int) < 8 + ((bodyOf args).length : Int) := c; omega) H1 s1
      have nl : ¬ encLong args := fun z => c (by show (20480 : Int) < 8 + ((bodyOf args).length : Int); have : 20480 < 8 + (bodyOf args).length := z; omega)
      refine ⟨_, rfl, n, 4, rfl, by omega, by decide, fun p2 H2 h2 s2 e2 => ?_⟩
      refine ⟨_, rfl, o, 2, rfl, by omega, by decide, fun p3 H3 h3 s3 e3 => ?_⟩
      refine ⟨p2, p3, _, _, rfl, rfl, s3 _ _ e2, e3, ?_, fun p4 h4 => ?_⟩
      · rw [List.length_map, List.length_map, octs_len, octs_len]; exact len_line (by decide)
      refine ⟨_, rfl, ((8 + (bodyOf args).length : Nat) : Int), 2, ?_, by omega, by decide, fun p5 H5 h5 s5 e5 => ?_⟩
      · exact congrArg (fun z => [V.int z, V.int 2]) ec
      refine ⟨p4, p5, _, _, rfl, rfl, s5 _ _ upd_same, e5, ?_, fun p6 h6 => ?_⟩
      · rw [List.length_append, List.length_map, List.length_map, List.length_map, octs_len, octs_len, octs_len]; exact len_line (by decide)
      have e1' := same_upd (o := .lst ((octs n 4).map V.int ++ (octs o 2).map V.int ++ (octs ((8 + (bodyOf args).length : Nat) : Int) 2).map V.int)) h6 _ _ (s5 _ _ (same_upd (o := .lst ((octs n 4).map V.int ++ (octs o 2).map V.int)) h4 _ _ (s3 _ _ (s2 _ _ e1))))
      refine ⟨_, rfl, p6, p, _, _, rfl, rfl, upd_same, e1', ?_, fun p7 h7 => q nb nl p7 _ ⟨?_, ?_, ?_⟩⟩
      · rw [List.length_append, List.length_append, List.length_map, List.length_map, List.length_map, List.length_map, octs_len, octs_len, octs_len]; exact len_line (by omega)
      · exact s1.free (s2.free (s3.free ((same_upd h4).free (s5.free ((same_upd h6).free h7)))))
      · exact s1.trans (s2.trans (s3.trans ((same_upd h4).trans (s5.trans ((same_upd h6).trans (same_upd h7))))))
      · rw [upd_same]
        unfold msgOcts
        rw [List.map_append, List.map_append, List.map_append]
/-! ### number_at, _cut, cut_messages -/
def numAt (xs : List Int) (at_ c : Nat) : Int := ((List.range c).map fun k => xs.getD (at_ + k) 0 * 2 ^ (8 * k)).sum
theorem numAt2 (xs : List Int) (p : Nat) : numAt xs p 2 = xs.getD p 0 + 256 * xs.getD (p + 1) 0 := by
  show xs.getD (p + 0) 0 * 2 ^ 0 + (xs.getD (p + 1) 0 * 2 ^ 8 + 0) = _
  rw [Nat.add_zero]; omega
theorem numAt4 (xs : List Int) (p : Nat) : numAt xs p 4 = xs.getD p 0 + 256 * xs.getD (p + 1) 0 + 65536 * xs.getD (p + 2) 0 + 16777216 * xs.getD (p + 3) 0 := by
  show xs.getD (p + 0) 0 * 2 ^ 0 + (xs.getD (p + 1) 0 * 2 ^ 8 + (xs.getD (p + 2) 0 * 2 ^ 16 + (xs.getD (p + 3) 0 * 2 ^ 24 + 0))) = _
  rw [Nat.add_zero]; omega
def okOcts (xs : List Int) : Prop := ∀ x ∈ xs, 0 ≤ x ∧ x ≤ 255
theorem getD_at {xs : List Int} {i : Nat} (h : i < xs.length) : (xs.map V.int)[i]? = some (.int (xs.getD i 0)) := by
  rw [List.getElem?_map, List.getElem?_eq_getElem h, List.getD_eq_getElem?_getD, List.getElem?_eq_getElem h]; rfl
theorem okOcts.get {xs : List Int} (h : okOcts xs) (i : Nat) : 0 ≤ xs.getD i 0 ∧ xs.getD i 0 ≤ 255 := by
  rw [List.getD_eq_getElem?_getD]
  cases e : xs[i]? with
  | none => decide
  | some x => exact h x (List.mem_of_getElem? e)
def sp_number_at (K : PySem.W.Frag) : Sp := fun vs H Q _ => ∃ (a : Addr) (xs : List Int) (p c : Nat), vs = [.ref a, .int (p : Int), .int (c : Int)] ∧ SqL K H a (xs.map V.int) ∧ okOcts xs ∧ p + c ≤ xs.length ∧ c ≤ 1000 ∧ ∀ H', Same H H' → Q (.int (numAt xs p c)) H'
theorem sc_number_at : FnScope ["octets", "at", "count", "place"] ["octets", "at", "count"] (defScope s_number_at) := ⟨rfl, rfl, rfl, by decide +kernel, rfl, by decide +kernel, by decide +kernel⟩
theorem ok_number_at (T : Txt K mg A) : FnOk P w K mg base CX0 1 A.fnumber_at A.dnumber_at ["octets", "at", "count"] (sp_number_at K) := by
  refine T.Fnumber_at.ok sc_number_at (fun vs H Q E h => ?_) (fun cdv Ar outer s H vs Q E hr h => ?_)
  · obtain ⟨a, xs, p, c, rfl, _⟩ := h
    rfl
  · obtain ⟨a, xs, p, c, rfl, hS, ho, hl, hc, q⟩ := h
    refine ⟨_, (pss_one (ps_ret (pe_callB (cr_sum rfl) (by rfl) T.sum (by decide +kernel) (pa_cons (pe_lc (own := [("place", 3)]) (g := (gName 3)) (tt := tYes) rfl sc_number_at.nd (pi_range1 (by rfl) T.range (pa_cons (pv 2) pa_nil)) (blkOk_by (own := [("place", 3)]) (N := ["octets", "at", "count", "place"]) (sc := defScope s_number_at) (by decide +kernel)) (fun _ _ _ _ _ => (pg_name (i := 3) sc_number_at.nd rfl (Or.inl rfl))) (fun _ _ _ _ _ => pts_nil) (fun _ _ _ _ _ => by exact (pe_op op_shl (pe_ix (r := rIxL K) ix_list (pv 0) (pe_op op_add (pv 1) (pv 3)) (fun _ _ => rfl)) (pe_op op_mul pe_int (pv 3))))) pa_nil)))), ?_⟩
    refine ⟨_, rfl, (c : Int), rfl, by omega, by omega, fun D hD => ?_⟩
    refine lc_dp (walk_range (lo := 0) (n := (c : Int).toNat)) (K := K) (V0 := H) (H0 := H) (fun k => some (PyData.int (xs.getD (p + k) 0 * 2 ^ (8 * k)))) [some (.ref a), some (.int (p : Int)), some (.int (c : Int)), none] rfl (Same.refl _) hD (by omega) (fun _ _ => trivial) (fun i x H H' y => y.1) ?_ ?_
    · rintro i x U H1 hi xx ⟨_, rfl⟩ Qy Qn hy _
      have hb := ho.get (p + i)
      have e1 : (8 * (0 + (i : Int))).toNat = 8 * i := by omega
      refine ⟨rfl, _, rfl, _, rfl, _, rfl, _, _, rfl, rfl, a, _, _, .int (xs.getD (p + i) 0), rfl, rfl, xx.hh.seq hS, at_of (j := p + i) (by omega) (getD_at (by omega)), ?_⟩
      refine ⟨_, rfl, _, _, rfl, rfl, Or.inl ⟨by decide, by decide⟩, _, _, rfl, rfl, ⟨?_, ?_, ?_⟩, ?_⟩
      · show (0 : Int) ≤ 8 * (0 + (i : Int)); omega
      · show 8 * (0 + (i : Int)) ≤ 1000000; omega
      · have : (xs.getD (p + i) 0).natAbs ≤ 255 := by omega
        exact Nat.lt_of_le_of_lt this (by decide)
      · dsimp only
        rw [e1]
        exact hy _ _ _ _ rfl (Ext.refl xx.vh) (.int _)
    · rintro U H1 ys xx hDU dl _
      rw [show (c : Int).toNat = c by omega, fm_some, show ((List.range c).map fun k => PyData.int (xs.getD (p + k) 0 * 2 ^ (8 * k))) = ((List.range c).map fun k => xs.getD (p + k) 0 * 2 ^ (8 * k)).map PyData.int from by rw [List.map_map]; rfl] at dl
      have e := dp_intsV dl
      subst e
      exact ⟨D, _, rfl, SqL.of (xx.vh _ _ hDU), q _ xx.hh⟩
theorem cutV_nat {xs : List V} {i j : Nat} (h : i ≤ j) (hj : j ≤ xs.length) : cutV xs (some (i : Int)) (some (j : Int)) = (xs.drop i).take (j - i) := by
  unfold cutV
  rw [HT.sIx_nat, HT.sIx_nat, Nat.min_eq_left (show i ≤ xs.length by omega), Nat.min_eq_left hj]
/-! ### _cut, cut_messages (behind number_at) -/
abbrev Msg := Int × Int × List Int
def msgD (m : Msg) : PyData := .tuple [.int m.1, .int m.2.1, pInts m.2.2]
theorem sh_msg (m : Msg) : Sh 2 (msgD m) := sh_tuple fun d hd => by
  simp only [List.mem_cons, List.not_mem_nil, or_false] at hd
  rcases hd with rfl | rfl | rfl
  · exact (sh_int _).mono (by decide)
  · exact (sh_int _).mono (by decide)
  · exact sh_ints _
def msgsD (ms : List Msg) : PyData := .list (ms.map msgD)
theorem sh_msgs (ms : List Msg) : Sh 3 (msgsD ms) := sh_list fun d hd => by
  obtain ⟨m, _, rfl⟩ := List.mem_map.mp hd
  exact sh_msg m
def isSize (s : Int) : Bool := decide (8 ≤ s ∧ s ≤ 20480 ∧ s % 4 = 0)
def msgAt (xs : List Int) (p : Nat) (s : Int) : Msg := (numAt xs p 4, numAt xs (p + 4) 2, (xs.drop (p + 8)).take (s.toNat - 8))
def cutF (xs : List Int) : Nat → Nat → List Msg × Nat × Bool
  | 0, p => ([], p, false)
  | f + 1, p => if xs.length < p + 8 then ([], p, false)
    else if isSize (numAt xs (p + 6) 2) = false then ([], p, true)
    else if (xs.length : Int) < p + numAt xs (p + 6) 2 then ([], p, false)
    else (msgAt xs p (numAt xs (p + 6) 2) :: (cutF xs f (p + (numAt xs (p + 6) 2).toNat)).1, (cutF xs f (p + (numAt xs (p + 6) 2).toNat)).2)
def cutR (xs : List Int) : List Msg × Nat × Bool := cutF xs (xs.length + 1) 0
theorem cutF_le (xs : List Int) : ∀ f p, p ≤ xs.length → (cutF xs f p).2.1 ≤ xs.length
  | 0, p, h => h
  | f + 1, p, h => by
    unfold cutF
    split
    · exact h
    · split
      · exact h
      · split
        · exact h
        · refine cutF_le xs f _ ?_
          rename_i h1 h2 h3
          have : isSize (numAt xs (p + 6) 2) = true := by simpa using h2
          have := of_decide_eq_true this
          omega
theorem cutR_le (xs : List Int) : (cutR xs).2.1 ≤ xs.length := cutF_le xs _ 0 (Nat.zero_le _)
theorem cutV_from {xs : List V} {i : Nat} (h : i ≤ xs.length) : cutV xs (some (i : Int)) none = xs.drop i := by
  unfold cutV
  rw [HT.sIx_nat, HT.sIx_none, Nat.min_eq_left h]
  exact List.take_of_length_le (by rw [List.length_drop]; exact Nat.le_refl _)
theorem cutV_to {xs : List V} {j : Nat} (h : j ≤ xs.length) : cutV xs none (some (j : Int)) = xs.take j := by
  unfold cutV
  rw [HT.sIx_nat, HT.sIx_none, Nat.min_eq_left h]; rfl
def sp_is_message_size (K : PySem.W.Frag) : Sp := fun vs H Q _ => ∃ (s : Int), vs = [.int s] ∧ Q (.bl (isSize s)) H
theorem sc_is_message_size : FnScope ["size"] ["size"] (defScope s_is_message_size) := ⟨rfl, rfl, rfl, by decide +kernel, rfl, by decide +kernel, by decide +kernel⟩
theorem ok_is_message_size (T : Txt K mg A) : FnOk P w K mg base CX0 1 A.fis_message_size A.dis_message_size ["size"] (sp_is_message_size K) := by
  refine T.Fis_message_size.ok sc_is_message_size (fun vs H Q E h => ?_) (fun cdv Ar outer s H vs Q E hr h => ?_)
  · obtain ⟨c, rfl, _⟩ := h
    rfl
  · obtain ⟨c, rfl, q⟩ := h
    refine ⟨_, (pss_one (ps_ret (pe_and (pe_chain op_le op_le (pe_glob (v := .int (8)) rfl T.gHEADER_SIZE ⟨_, rfl⟩) (pv 0) (pe_glob (v := .int (20480)) rfl T.gGREATEST_SIZE ⟨_, rfl⟩)) (pe_one (pe_cmpR op_eq (pe_op op_mod (pv 0) pe_int) pe_int (nomark _)))))), ?_⟩
    unfold isSize at q
    refine ⟨_, rfl, _, _, rfl, rfl, _, rfl, iteP (fun h1 => ?_) (fun h1 => ?_)⟩
    · refine ⟨_, _, rfl, rfl, _, rfl, iteP (fun h2 => ?_) (fun h2 => ?_)⟩
      · refine ⟨_, rfl, _, _, rfl, rfl, by show (0 : Int) < 4; decide, rfl, ?_⟩
        by_cases h3 : c % 4 = 0
        · rw [decide_eq_true ⟨h1, h2, h3⟩] at q
          dsimp only
          rw [decide_eq_true (by rw [h3])]; exact q
        · rw [decide_eq_false fun z => h3 z.2.2] at q
          dsimp only
          rw [decide_eq_false fun z => h3 (V.int.inj z)]; exact q
      · rw [decide_eq_false fun z => h2 z.2.1] at q; exact q
    · refine ⟨_, rfl, if_f rfl ?_⟩
      rw [decide_eq_false fun z => h1 z.1] at q; exact q
/-- _cut: a new tuple of a new list of messages, the place, the fault -/
def sp__cut (K : PySem.W.Frag) : Sp := fun vs H Q _ => ∃ (a : Addr) (xs : List Int) (U : Hp), vs = [.ref a] ∧ Same U H ∧ SqL K H a (xs.map V.int) ∧ okOcts xs ∧ xs.length < 80000 ∧
  ∀ (p m : Addr) (U' H' : Hp), Ext U H U' H' → U' p = some (.tup [.ref m, .int ((cutR xs).2.1 : Int), .bl (cutR xs).2.2]) → Dp K U' (.ref m) (msgsD (cutR xs).1) → (∃ ys, U' m = some (.lst ys) ∧ DpAll K U' ys ((cutR xs).1.map msgD)) → Q (.ref p) H'
theorem sc__cut : FnScope ["octets", "messages", "at", "size", "body"] ["octets"] (defScope s__cut) := ⟨rfl, rfl, rfl, by decide +kernel, rfl, by decide +kernel, by decide +kernel⟩
theorem ok__cut (T : Txt K mg A) : FnOk P w K mg base CX0 2 A.f_cut A.d_cut ["octets"] (sp__cut K) := by
  refine T.F_cut.ok sc__cut (fun vs H Q E h => ?_) (fun cdv Ar outer s H vs Q E hr h => ?_)
  · obtain ⟨a, xs, U, rfl, _⟩ := h
    rfl
  · obtain ⟨a, xs, U, rfl, hU, hS, ho, hl, q⟩ := h
    refine ⟨_, (pss_cons (ps_set (i := 1) sc__cut.nd rfl (Or.inl rfl) (pe_lst pa_nil))
      (pss_cons (ps_set (i := 2) sc__cut.nd rfl (Or.inl rfl) pe_int)
      (pss_cons (ps_while PassesOwn.never (pt_cmpR op_le (pe_op op_add (pv 2) (pe_glob (v := .int (8)) rfl T.gHEADER_SIZE ⟨_, rfl⟩)) (pe_callB call_len_seq (by rfl) T.len PySem.boot_len (pa_cons (pv 0) pa_nil)) (nomark _))
      (pss_cons (ps_set (i := 3) sc__cut.nd rfl (Or.inl rfl) (pe_call (ok_number_at T) (hr.mono (by decide)) rfl T.gnumber_at T.knumber_at T.bnumber_at .nil pass0 (pa_cons (pv 0) (pa_cons (pe_op op_add (pv 2) pe_int) (pa_cons pe_int pa_nil)))))
      (pss_cons (ps_if (pt_not (pt_val (pe_call (ok_is_message_size T) (hr.mono (by decide)) rfl T.gis_message_size T.kis_message_size T.bis_message_size .nil pass0 (pa_cons (pv 3) pa_nil))))
      (pss_one (ps_ret (pe_tup (pa_cons (pv 1) (pa_cons (pv 2) (pa_cons pe_bl pa_nil))))))
      pss_nil)
      (pss_cons (ps_if (pt_cmpR op_gt (pe_op op_add (pv 2) (pv 3)) (pe_callB call_len_seq (by rfl) T.len PySem.boot_len (pa_cons (pv 0) pa_nil)) (nomark _))
      (pss_one ps_break)
      pss_nil)
      (pss_cons (ps_set (i := 4) sc__cut.nd rfl (Or.inl rfl) (pe_slice (r := rSlL K) sl_list (pv 0) (po_some (pe_op op_add (pv 2) (pe_glob (v := .int (8)) rfl T.gHEADER_SIZE ⟨_, rfl⟩))) (po_some (pe_op op_add (pv 2) (pv 3)))))
      (pss_cons (ps_expr (pe_bm PySem.F.plainAttrs_list PySem.F.slot_list_append PySem.F.type_list_append mt_append (pv 1) (pa_cons (pe_tup (pa_cons (pe_call (ok_number_at T) (hr.mono (by decide)) rfl T.gnumber_at T.knumber_at T.bnumber_at .nil pass0 (pa_cons (pv 0) (pa_cons (pv 2) (pa_cons pe_int pa_nil)))) (pa_cons (pe_call (ok_number_at T) (hr.mono (by decide)) rfl T.gnumber_at T.knumber_at T.bnumber_at .nil pass0 (pa_cons (pv 0) (pa_cons (pe_op op_add (pv 2) pe_int) (pa_cons pe_int pa_nil)))) (pa_cons (pv 4) pa_nil)))) pa_nil)))
      (pss_one (ps_aug (i := 2) sc__cut.nd rfl (Or.inl rfl) (pv 3) ip_add))))))))
      (pss_one (ps_ret (pe_tup (pa_cons (pv 1) (pa_cons (pv 2) (pa_cons pe_bl pa_nil))))))))), ?_⟩
    refine ⟨by decide, fun m hm => ?_⟩
    -- the end: the tuple
    have fin : ∀ (H' : Hp) (ms : List Msg) (pl : Nat) (ft : Bool), LcInv K U H m (ms.map msgD) H' → cutR xs = (ms, pl, ft) → ∀ p, H' p = none → Q (.ref p) (upd H' p (.tup [.ref m, .int (pl : Int), .bl ft])) := by
      intro H' ms pl ft inv e p hp
      obtain ⟨U1, ys, x1, e1, e2, e3⟩ := inv.done hm
      have x2 := x1.trans (Ext.new (o := .tup [.ref m, .int (pl : Int), .bl ft]) x1.vh hp)
      refine q p m _ _ x2 ?_ ?_ ⟨ys, same_upd (none_of_same x1.vh hp) _ _ e1, by rw [e]; exact e2.to (same_upd (none_of_same x1.vh hp))⟩
      · rw [e]; exact upd_same
      · rw [e]; exact e3.to (same_upd (none_of_same x1.vh hp))
    refine ⟨fun f σ H' => ∃ (acc : List Msg) (pl : Nat) (v3 v4 : Option V), LcInv K U H m (acc.map msgD) H' ∧ σ = [some (.ref a), some (.ref m), some (.int (pl : Int)), v3, v4] ∧ pl ≤ xs.length ∧ acc.length ≤ pl ∧ xs.length < pl + f ∧ cutR xs = (acc ++ (cutF xs f pl).1, (cutF xs f pl).2),
      ⟨xs.length + 1, [], 0, none, none, LcInv.start hU hm, rfl, Nat.zero_le _, Nat.zero_le _, by omega, rfl⟩, ?_⟩
    rintro f σ H1 ⟨acc, pl, v3, v4, inv, rfl, hp, hac, hf, hR⟩
    have sH : Same H H1 := by obtain ⟨_, _, x, _⟩ := inv.ex; exact x.hh
    have hS1 := sH.seq hS
    obtain ⟨f, rfl⟩ : ∃ g, f = g + 1 := ⟨f - 1, by omega⟩
    unfold cutF at hR
    refine ⟨_, rfl, _, _, rfl, rfl, _, rfl, a, _, rfl, .inl hS1, _, _, rfl, rfl, _, rfl, ?_⟩
    rw [List.length_map]
    refine iteP (fun h => ?_) (fun h => ?_)
    · rw [if_neg (show ¬ xs.length < pl + 8 by omega)] at hR
      refine ⟨fun σ' H' => ∃ (acc : List Msg) (pl : Nat) (v3 v4 : Option V), LcInv K U H m (acc.map msgD) H' ∧ σ' = [some (.ref a), some (.ref m), some (.int (pl : Int)), v3, v4] ∧ pl ≤ xs.length ∧ acc.length ≤ pl ∧ xs.length < pl + f ∧ cutR xs = (acc ++ (cutF xs f pl).1, (cutF xs f pl).2), fun σ' H' hN => ⟨f, Nat.lt_succ_self f, hN⟩, ?_⟩
      -- size
      refine ⟨_, rfl, _, rfl, _, _, rfl, rfl, a, xs, pl + 6, 2, ?_, hS1, ho, by omega, by decide, fun H2 s2 => ?_⟩
      · show [V.ref a, V.int ((pl : Int) + 6), V.int 2] = [V.ref a, V.int ((pl + 6 : Nat) : Int), V.int 2]
        rw [Int.natCast_add]; rfl
      have inv2 : LcInv K U H m (acc.map msgD) H2 := by
        obtain ⟨U1, ys, x, e1, e2, e3⟩ := inv.ex
        exact ⟨U1, ys, ⟨x.vv, x.vh.trans s2, x.hh.trans s2, x.nw⟩, e1, s2 _ _ e2, e3⟩
      have hS2 := s2.seq hS1
      generalize numAt xs (pl + 6) 2 = sz at hR ⊢
      refine ⟨_, rfl, sz, rfl, _, rfl, if_b (fun c => ?_) (fun c => ?_)⟩
      · have c' : isSize sz = false := by
          cases e : isSize sz
          · rfl
          · rw [e] at c; cases c
        rw [if_pos c'] at hR
        rw [List.append_nil] at hR
        exact ⟨_, rfl, _, rfl, len_line (by show 3 ≤ 100000; decide), fun p hp => fin _ _ _ _ inv2 hR p hp⟩
      · have c' : isSize sz = true := by
          cases e : isSize sz
          · rw [e] at c; cases c
          · rfl
        have hsz := of_decide_eq_true c'
        rw [if_neg (by rw [c']; decide)] at hR
        refine ⟨_, rfl, _, rfl, _, _, rfl, rfl, _, rfl, a, _, rfl, .inl hS2, _, _, rfl, rfl, _, rfl, ?_⟩
        rw [List.length_map]
        refine iteP (fun h2 => ?_) (fun h2 => ?_)
        · rw [if_pos (by omega), List.append_nil] at hR
          exact ⟨_, rfl, _, rfl, len_line (by show 3 ≤ 100000; decide), fun p hp => fin _ _ _ _ inv2 hR p hp⟩
        · rw [if_neg (by omega)] at hR
          obtain ⟨k, rfl⟩ : ∃ k : Nat, sz = k := ⟨sz.toNat, by omega⟩
          refine ⟨_, rfl, _, rfl, _, _, rfl, rfl, _, rfl, _, rfl, _, rfl, _, _, rfl, rfl, _, rfl, a, _, rfl, hS2, fun b hb => ?_⟩
          have e1 : cutV (xs.map V.int) (some ((pl : Int) + 8)) (some ((pl : Int) + (k : Int))) = ((xs.drop (pl + 8)).take (k - 8)).map V.int := by
            have := cutV_nat (xs := xs.map V.int) (i := pl + 8) (j := pl + k) (by omega) (by rw [List.length_map]; omega)
            rw [Int.natCast_add, Int.natCast_add] at this
            rw [List.map_take, List.map_drop]
            rw [show pl + k - (pl + 8) = k - 8 by omega] at this
            exact this
          dsimp only
          rw [e1]
          obtain ⟨U1, ys, x, i1, i2, i3⟩ := inv2.ex
          have hmb : m ≠ b := ne_of_none i2 hb
          have xb := Ext.new (o := .lst (((xs.drop (pl + 8)).take (k - 8)).map V.int)) x.vh hb
          have hS3 := xb.hh.seq hS2
          refine ⟨_, rfl, .inl ⟨rfl, _, SqL.of (xb.hh _ _ i2)⟩, ?_⟩
          refine ⟨_, rfl, _, rfl, a, xs, pl, 4, rfl, hS3, ho, by omega, by decide, fun H4 s4 => ?_⟩
          refine ⟨_, rfl, _, rfl, _, _, rfl, rfl, a, xs, pl + 4, 2, ?_, s4.seq hS3, ho, by omega, by decide, fun H5 s5 => ?_⟩
          · show [V.ref a, V.int ((pl : Int) + 4), V.int 2] = [V.ref a, V.int ((pl + 4 : Nat) : Int), V.int 2]
            rw [Int.natCast_add]; rfl
          refine ⟨_, rfl, len_line (by show 3 ≤ 100000; decide), fun t ht => ?_⟩
          have xb2 : Ext U1 H2 (upd U1 b (.lst (((xs.drop (pl + 8)).take (k - 8)).map V.int))) H5 := ⟨xb.vv, (xb.vh.trans s4).trans s5, (xb.hh.trans s4).trans s5, xb.nw⟩
          have xt := xb2.trans (Ext.new (o := .tup [.int (numAt xs pl 4), .int (numAt xs (pl + 4) 2), .ref b]) xb2.vh ht)
          obtain ⟨acc', j1, j2, j3⟩ := LcInv.push (d := msgD (msgAt xs pl k)) (y := .ref t) hm x i1 i2 i3 xt
            (.tup (SqT.of upd_same) (.cons (.int _) (.cons (.int _) (.cons ((dp_ints (xs := (xs.drop (pl + 8)).take (k - 8)) (SqL.of upd_same)).to (same_upd (none_of_same xb2.vh ht))) .nil)))) (by rw [List.length_map]; omega)
          refine ⟨m, _, _, rfl, rfl, j1, j2, ?_⟩
          refine ⟨_, rfl, _, rfl, _, _, rfl, rfl, ?_⟩
          refine ⟨acc ++ [msgAt xs pl k], pl + k, some (.int (k : Int)), some (.ref b), ?_, ?_, by omega, by rw [List.length_append]; show acc.length + 1 ≤ _; omega, by omega, ?_⟩
          · rw [List.map_append]; exact j3
          · show [some (V.ref a), some (V.ref m), some (V.int ((pl : Int) + (k : Int))), _, _] = [some (V.ref a), some (V.ref m), some (V.int ((pl + k : Nat) : Int)), _, _]
            rw [Int.natCast_add]
          · rw [hR, List.append_assoc]; rfl
    · rw [if_pos (by omega), List.append_nil] at hR
      exact ⟨_, rfl, _, rfl, len_line (by show 3 ≤ 100000; decide), fun p hp => fin _ _ _ _ inv hR p hp⟩
def cutD (xs : List Int) : PyData := .tuple [msgsD (cutR xs).1, pInts (xs.drop (cutR xs).2.1), .bool (cutR xs).2.2]
theorem sh_cut (xs : List Int) : Sh 4 (cutD xs) := sh_tuple fun d hd => by
  simp only [List.mem_cons, List.not_mem_nil, or_false] at hd
  rcases hd with rfl | rfl | rfl
  · exact sh_msgs _
  · exact (sh_ints _).mono (by decide)
  · exact (sh_bool _).mono (by decide)
def sp_cut_messages (K : PySem.W.Frag) : Sp := fun vs H Q _ => ∃ (a : Addr) (xs : List Int) (U : Hp), vs = [.ref a] ∧ Same U H ∧ SqL K H a (xs.map V.int) ∧ okOcts xs ∧ xs.length < 80000 ∧
  ∀ (p m b : Addr) (U' H' : Hp), Ext U H U' H' → U' p = some (.tup [.ref m, .ref b, .bl (cutR xs).2.2]) → Dp K U' (.ref p) (cutD xs) → Dp K U' (.ref m) (msgsD (cutR xs).1) → U' b = some (.lst ((xs.drop (cutR xs).2.1).map V.int)) → Q (.ref p) H'
theorem sc_cut_messages : FnScope ["octets", "messages", "at", "fault"] ["octets"] (defScope s_cut_messages) := ⟨rfl, rfl, rfl, by decide +kernel, rfl, by decide +kernel, by decide +kernel⟩
theorem ok_cut_messages (T : Txt K mg A) : FnOk P w K mg base CX0 3 A.fcut_messages A.dcut_messages ["octets"] (sp_cut_messages K) := by
  refine T.Fcut_messages.ok sc_cut_messages (fun vs H Q E h => ?_) (fun cdv Ar outer s H vs Q E hr h => ?_)
  · obtain ⟨a, xs, U, rfl, _⟩ := h
    rfl
  · obtain ⟨a, xs, U, rfl, hU, hS, ho, hl, q⟩ := h
    refine ⟨_, (pss_cons (ps_asg (pe_call (ok__cut T) (hr.mono (by decide)) rfl T.g_cut T.k_cut T.b_cut .nil pass0 (pa_cons (pv 0) pa_nil)) (pg_tup rfl (pgs_cons (pg_name (i := 1) sc_cut_messages.nd rfl (Or.inl rfl)) (pgs_cons (pg_name (i := 2) sc_cut_messages.nd rfl (Or.inl rfl)) (pgs_cons (pg_name (i := 3) sc_cut_messages.nd rfl (Or.inl rfl)) pgs_nil)))))
      (pss_one (ps_ret (pe_tup (pa_cons (pv 1) (pa_cons (pe_slice (r := rSlL K) sl_list (pv 0) (po_some (pv 2)) po_none) (pa_cons (pv 3) pa_nil))))))), ?_⟩
    refine ⟨_, rfl, a, xs, U, rfl, hU, hS, ho, hl, fun p m U1 H1 x1 e1 d1 _ => ?_⟩
    have hle := cutR_le xs
    refine ⟨p, _, rfl, SqT.of (x1.vh _ _ e1), rfl, _, _, rfl, _, _, rfl, _, _, rfl, rfl, ?_⟩
    refine ⟨_, rfl, _, rfl, _, rfl, _, rfl, a, _, rfl, x1.hh.seq hS, fun b hb => ?_⟩
    rw [cutV_from (by rw [List.length_map]; exact hle), ← List.map_drop]
    refine ⟨_, rfl, len_line (by show 3 ≤ 100000; decide), fun t ht => ?_⟩
    have x2 := x1.trans (Ext.new (o := .lst ((xs.drop (cutR xs).2.1).map V.int)) x1.vh hb)
    have x3 := x2.trans (Ext.new (o := .tup [.ref m, .ref b, .bl (cutR xs).2.2]) x2.vh ht)
    have st := same_upd (o := .tup [.ref m, .ref b, .bl (cutR xs).2.2]) (none_of_same x2.vh ht)
    have sb := same_upd (o := .lst ((xs.drop (cutR xs).2.1).map V.int)) (none_of_same x1.vh hb)
    have dm := (d1.to sb).to st
    have eb := st _ _ (upd_same : (upd U1 b (.lst ((xs.drop (cutR xs).2.1).map V.int))) b = some (.lst ((xs.drop (cutR xs).2.1).map V.int)))
    exact q t m b _ _ x3 upd_same (.tup (SqT.of upd_same) (.cons dm (.cons (dp_ints (SqL.of eb)) (.cons (.bl _) .nil)))) dm eb
/-! ### del xs[:c] of a list (our own rule; its road is that of the library's rule for xs[a:b] = ys) -/
section
open PySem PySem.Spec PyProof.Rows
variable {prog : Program} {w : World} {A : Around} {E : Value → Shared → Prop} {s : Shared}
theorem drop_kept {α : Type} (g : α × Nat → Option α) (c : Nat) (hg : ∀ x k, g (x, k) = if k < c then none else some x) : ∀ (its : List α) (b : Nat), (its.zipIdx b).filterMap g = its.drop (c - b)
  | [], b => by rw [List.drop_nil]; rfl
  | x :: r, b => by
    rw [List.zipIdx_cons, List.filterMap_cons, hg]
    by_cases h : b < c
    · rw [if_pos h]
      dsimp only
      rw [drop_kept g c hg r (b + 1), show c - b = (c - (b + 1)) + 1 by omega, List.drop_succ_cons]
    · rw [if_neg h]
      dsimp only
      rw [drop_kept g c hg r (b + 1), show c - b = 0 by omega, show c - (b + 1) = 0 by omega, List.drop_zero, List.drop_zero]
theorem bounds_to {c n : Nat} (hc : c ≤ n) : sliceBounds none (some (c : Int)) none n = (0, (c : Int), 1) := by
  simp only [sliceBounds, Option.getD_none]
  have h2 : ¬ ((c : Int) < 0) := by omega
  simp only [h2, if_false, show (1 : Int) > 0 by decide, if_true]
  congr 2
  omega
set_option maxRecDepth 100000 in
theorem delItem_to {l sl : Addr} {items : Array Value} {n : Nat} {vl vu : Value} {c : Nat} {Q : Unit → Shared → Prop}
    (e : s.heap.get? l = some { cls := .type "list", data := .seq items n })
    (hs : s.heap.IsSliceOf sl vl vu .none) (pl : IsPart vl none) (pu : IsPart vu (some (c : Int))) (hc : c ≤ items.size)
    (hsz : items.size ≤ sizeLine) (h : ∀ F : Array Value → Array Value, F items = (items.toList.drop c).toArray → Q () { s with heap := s.heap.update l (Obj.mapSeq F) }) :
    wpAny (model prog w) A (delItem (.ref l) (.ref sl)) Q E s := by
  have hl : s.heap.IsList l items := PySem.IsL.isList e
  obtain ⟨os, hos, hcs, hds⟩ := id hs
  have hTs : s.TypeIs (.ref sl) "slice" := ⟨os, hos, hcs⟩
  have hstep : ¬ ((rawPart none == rawInt 0) = true) := Bool.false_ne_true
  refine wpAny_delItem_slot hl.typeIs (by decide) F.slot_list_delitem (wpAny_call_entry F.slot_list_delitem hl.typeIs F.entry_list_delitem ?_ (F.args_list_delitem_2 _ _))
  show wpAny _ _ (Builtin.List.listSubscript? (.ref sl) >>= _) _ _ s
  refine wpAny_bind ?_
  unfold Builtin.List.listSubscript?
  refine wpAny_bind (wpAny_specialOf hTs slice_no_index ?_)
  simp only [Option.isNone_none, if_true]
  refine wpAny_pure ?_
  show wpAny _ _ (typeOf (.ref sl) >>= _) _ _ s
  refine wpAny_bind (wpAny_typeOf hTs ?_)
  first
    | rw [if_neg (by decide)]
    | refine PySem.W.KFB.if_not (by decide) ?_
  rw [listSliceParts_eq]
  refine wpAny_bind (wpAny_bind (wpAny_field hos hds (x := .none) rfl (wpAny_bind (wpAny_listPart .none ?_))))
  rw [if_neg hstep]
  refine wpAny_bind (wpAny_field hos hds (x := vl) rfl (wpAny_bind (wpAny_listPart pl ?_)))
  refine wpAny_bind (wpAny_field hos hds (x := vu) rfl (wpAny_bind (wpAny_listPart pu (wpAny_pure ?_))))
  unfold Builtin.List.listItems
  refine wpAny_bind (wpAny_bind (wpAny_seqItems e rfl (wpAny_pure ?_)))
  refine wpAny_bind (wpAny_of_eq ((sliceIndices_raw none (some (c : Int)) none items.size (by simp)).trans (congrArg (pure : Int × Int × Int → Sem (Int × Int × Int)) (bounds_to hc))) ?_)
  refine wpAny_bind (wpAny_rule ?_)
  have sel : ∀ k : Nat, ((decide ((0 : Int) ≤ (k : Int)) && decide ((k : Int) < (c : Int))) && (((k : Int) - 0) % 1 == 0)) = decide (k < c) := by
    intro k
    rw [decide_eq_true (show (0 : Int) ≤ (k : Int) by omega), Bool.true_and, show (((k : Int) - 0) % 1 == 0) = true from beq_iff_eq.mpr (by omega), Bool.and_true]
    by_cases h : k < c
    · rw [decide_eq_true h, decide_eq_true (show (k : Int) < (c : Int) by omega)]
    · rw [decide_eq_false h, decide_eq_false (show ¬ (k : Int) < (c : Int) by omega)]
  refine wpAny_bind (wpAny_updateSeq (hz := hsz) (_hz' := ?sz) e rfl ?go)
  case sz =>
    dsimp only
    rw [drop_kept _ c ?_ items.toList 0]
    · rw [List.size_toArray, List.length_drop, Array.length_toList]
      omega
    · intro x k
      dsimp only
      refine (congrArg (fun b : Bool => if b = true then (none : Option Value) else some x) (sel k)).trans ?_
      by_cases h : k < c
      · rw [decide_eq_true h, if_pos h]; rfl
      · rw [decide_eq_false h, if_neg h]; rfl
  case go =>
    refine wpAny_bind (wpAny_letGo ?_)
    refine wpAny_pure ⟨.none, rfl, h _ ?_⟩
    dsimp only
    rw [drop_kept _ c ?_ items.toList 0]
    · rfl
    · intro x k
      dsimp only
      refine (congrArg (fun b : Bool => if b = true then (none : Option Value) else some x) (sel k)).trans ?_
      by_cases h : k < c
      · rw [decide_eq_true h, if_pos h]; rfl
      · rw [decide_eq_false h, if_neg h]; rfl
end
section
variable {X : Cx} {pos : Pos}
/-- del xs[:c], xs changed in place -/
theorem del_to {pins : List (Addr × Obj)} {s : Shared} {σ : St} {H : Hp} {l sl : Addr} {xs : List V} {c : Nat} {vl vu : Value} {Q : Unit → Shared → Prop} (I : Inv X pins σ H s)
    (hH : H l = some (.lst xs)) (hs : s.heap.IsSliceOf sl vl vu .none) (pl : IsPart vl none) (pu : IsPart vu (some (c : Int))) (hc : c ≤ xs.length)
    (h : ∀ s', Inv X pins σ (upd H l (.lst (xs.drop c))) s' → Q () s') :
    wpAny (model X.prog X.w) X.A (delItem (.ref l) (.ref sl)) Q X.xe s := by
  obtain ⟨z, its, n, r, hl, e⟩ := I.lstM hH
  refine delItem_to (c := c) e hs pl pu (by rw [List.size_toArray]; omega) (by rw [List.size_toArray]; omega) fun F hF => h _ ?_
  refine I.lset (its' := its.drop c) (t' := s.toks) hH e hF (r.drop c) ?_
  rw [List.length_drop]; omega
def tDelTo (to : TE) (th : TO) : TS := fun D σ H => to σ H fun x H1 => th σ H1 fun u H2 => ∃ (l : Addr) (xs : List V) (c : Nat), x = .ref l ∧ u = some (c : Int) ∧ H2 l = some (.lst xs) ∧ c ≤ xs.length ∧ D.nx σ (upd H2 l (.lst (xs.drop c)))
theorem ps_delTo {o : Expr} {hi : Option Expr} {to : TE} {th : TO} {p2 tpos : Pos} (ho : PE X o to) (hu : PO X hi th) : PS X (.Delete [.Subscript o (.Slice none hi none p2) tpos] pos) (tDelTo to th) := by
  refine ⟨fun pins s σ H D I h => ?_⟩
  refine wpAny_Delete (wpAny_deleteEach_cons (wpAny_delete_Subscript (thn (ho.run pins s σ H _ I h) fun v s1 ⟨x, H1, I1, rx, q1⟩ => ?_)))
  refine wpAny_Slice ?_
  rw [evalPart_none]
  refine wpAny_pure ?_
  refine thn (hu.run pins s1 σ H1 _ I1 q1) fun vu s3 ⟨u, H3, I3, pu, q3⟩ => ?_
  refine wpAny_pure ?_
  have I4 : Inv X pins σ H3 { s3 with heap := s3.heap.push { cls := .type "slice", data := .fields #[.none, vu, .none] } } := I3.kept (t' := s3.toks) fun b ob q => Heap.get?_push_of_some _ q
  obtain ⟨l, xs, c, ex, eu, hH, hc, q⟩ := q3
  subst ex
  subst eu
  cases (show v = Value.ref l from rx)
  exact del_to I4 hH (Heap.IsSliceOf.new ..) .none pu hc fun s4 I5 => wpAny_deleteEach_nil ⟨σ, _, I5, q⟩
end
/-! ### views that grow while objects outside of them change -/
structure Grow (U H U' H' : Hp) : Prop where
  vv : Same U U'
  vh : Same U' H'
  nw : ∀ a, U' a ≠ none → U a ≠ none ∨ H a = none
theorem Ext.grow {U H U' H' : Hp} (x : Ext U H U' H') : Grow U H U' H' := ⟨x.vv, x.vh, x.nw⟩
theorem Grow.refl {U H : Hp} (s : Same U H) : Grow U H U H := ⟨Same.refl U, s, fun _ h => Or.inl h⟩
theorem Grow.keepOut {U H U' H' : Hp} (x : Grow U H U' H') {D : Addr} (h : U D = none) (hd : H D ≠ none) : U' D = none := by
  cases e : U' D with
  | none => rfl
  | some o =>
    rcases x.nw D (by rw [e]; exact fun z => by cases z) with q | q
    · exact absurd h q
    · exact absurd q hd
/-- an object outside of the view changes -/
theorem Grow.poke {U H U' H' : Hp} (x : Grow U H U' H') {D : Addr} {o : HO} (h : U' D = none) : Grow U H U' (upd H' D o) :=
  ⟨x.vv, fun b u e => by
    have hb : b ≠ D := fun z => by rw [z, h] at e; cases e
    rw [upd_ne hb]; exact x.vh b u e, x.nw⟩
theorem same_poke {U H : Hp} (s : Same U H) {D : Addr} {o : HO} (h : U D = none) : Same U (upd H D o) := fun b u e => by
  have hb : b ≠ D := fun z => by rw [z, h] at e; cases e
  rw [upd_ne hb]; exact s b u e
/-- what was new behind a change of what the view has not is new ahead of it, if that was there -/
theorem Grow.from_ {U H H1 U' H' : Hp} (x : Grow U H1 U' H') (h : ∀ a, H1 a = none → H a = none) : Grow U H U' H' :=
  ⟨x.vv, x.vh, fun a e => (x.nw a e).imp id (h a)⟩
theorem Grow.trans {U H U1 H1 U2 H2 : Hp} (a : Grow U H U1 H1) (b : Grow U1 H1 U2 H2) (h : ∀ a, H1 a = none → H a = none) : Grow U H U2 H2 :=
  ⟨a.vv.trans b.vv, b.vh, fun x e => by
    rcases b.nw x e with q | q
    · exact a.nw x q
    · exact Or.inr (h x q)⟩
theorem none_poke {H : Hp} {D : Addr} {o : HO} (hd : H D ≠ none) : ∀ a, upd H D o a = none → H a = none := fun a e => by
  by_cases h : a = D
  · subst h; rw [upd_same] at e; cases e
  · rw [upd_ne h] at e; exact e
theorem none_same {H H' : Hp} (s : Same H H') : ∀ a, H' a = none → H a = none := fun a e => s.free e
/-! ### cutting octets that come in portions -/
theorem numAt_app {A B : List Int} {p n : Nat} (h : p + n ≤ A.length) : numAt (A ++ B) p n = numAt A p n := by
  unfold numAt
  congr 1
  refine List.map_congr_left fun k hk => ?_
  have := List.mem_range.mp hk
  rw [List.getD_eq_getElem?_getD, List.getD_eq_getElem?_getD, List.getElem?_append_left (by omega)]
theorem numAt_drop (A : List Int) (q j n : Nat) : numAt A (q + j) n = numAt (A.drop q) j n := by
  unfold numAt
  congr 1
  refine List.map_congr_left fun k _ => ?_
  rw [List.getD_eq_getElem?_getD, List.getD_eq_getElem?_getD, List.getElem?_drop, Nat.add_assoc]
theorem isSize_b {s : Int} (h : isSize s = true) : 8 ≤ s ∧ s ≤ 20480 := by
  have := of_decide_eq_true h
  omega
theorem msgAt_app {A B : List Int} {p : Nat} {s : Int} (h8 : 8 ≤ s) (h : (p : Int) + s ≤ A.length) : msgAt (A ++ B) p s = msgAt A p s := by
  unfold msgAt
  rw [numAt_app (by omega), numAt_app (by omega), List.drop_append_of_le_length (by omega), List.take_append_of_le_length (by rw [List.length_drop]; omega)]
theorem msgAt_drop (A : List Int) (q j : Nat) (s : Int) : msgAt A (q + j) s = msgAt (A.drop q) j s := by
  unfold msgAt
  rw [numAt_drop, show q + j + 4 = q + (j + 4) by omega, numAt_drop, List.drop_drop, show q + j + 8 = q + (j + 8) by omega]
theorem cutF_fuel {xs : List Int} : ∀ f g p, xs.length < p + f → xs.length < p + g → cutF xs f p = cutF xs g p
  | 0, 0, _, _, _ => rfl
  | 0, g + 1, p, h1, h2 => by unfold cutF; rw [if_pos (by omega)]
  | f + 1, 0, p, h1, h2 => by unfold cutF; rw [if_pos (by omega)]
  | f + 1, g + 1, p, h1, h2 => by
    unfold cutF
    by_cases c1 : xs.length < p + 8
    · rw [if_pos c1, if_pos c1]
    rw [if_neg c1, if_neg c1]
    by_cases c2 : isSize (numAt xs (p + 6) 2) = false
    · rw [if_pos c2, if_pos c2]
    rw [if_neg c2, if_neg c2]
    by_cases c3 : (xs.length : Int) < p + numAt xs (p + 6) 2
    · rw [if_pos c3, if_pos c3]
    rw [if_neg c3, if_neg c3]
    have b := isSize_b (by simpa using c2)
    rw [cutF_fuel f g (p + (numAt xs (p + 6) 2).toNat) (by omega) (by omega)]
theorem cutF_drop {xs : List Int} {q : Nat} (hq : q ≤ xs.length) : ∀ f j, cutF xs f (q + j) = ((cutF (xs.drop q) f j).1, q + (cutF (xs.drop q) f j).2.1, (cutF (xs.drop q) f j).2.2)
  | 0, j => rfl
  | f + 1, j => by
    unfold cutF
    rw [show q + j + 6 = q + (j + 6) by omega, numAt_drop, List.length_drop, msgAt_drop]
    by_cases c1 : xs.length < q + j + 8
    · rw [if_pos c1, if_pos (by omega)]
    rw [if_neg c1, if_neg (show ¬ xs.length - q < j + 8 by omega)]
    by_cases c2 : isSize (numAt (xs.drop q) (j + 6) 2) = false
    · rw [if_pos c2, if_pos c2]
    rw [if_neg c2, if_neg c2]
    by_cases c3 : (xs.length : Int) < ((q + j : Nat) : Int) + numAt (xs.drop q) (j + 6) 2
    · rw [if_pos c3, if_pos (by omega)]
    rw [if_neg c3, if_neg (show ¬ ((xs.length - q : Nat) : Int) < (j : Int) + numAt (xs.drop q) (j + 6) 2 by omega)]
    have ih := cutF_drop hq f (j + (numAt (xs.drop q) (j + 6) 2).toNat)
    rw [← Nat.add_assoc] at ih
    rw [ih]
theorem cutF_app {A B : List Int} : ∀ f p, A.length < p + f → p ≤ A.length → ∀ g, (A ++ B).length < p + g →
    ∃ g', (A ++ B).length < (cutF A f p).2.1 + g' ∧ cutF (A ++ B) g p = ((cutF A f p).1 ++ (cutF (A ++ B) g' (cutF A f p).2.1).1, (cutF (A ++ B) g' (cutF A f p).2.1).2)
  | 0, p, h1, h2, g, h3 => by omega
  | f + 1, p, h1, h2, g, h3 => by
    have stay : (cutF A (f + 1) p).1 = [] → (cutF A (f + 1) p).2.1 = p → ∃ g', (A ++ B).length < (cutF A (f + 1) p).2.1 + g' ∧ cutF (A ++ B) g p = ((cutF A (f + 1) p).1 ++ (cutF (A ++ B) g' (cutF A (f + 1) p).2.1).1, (cutF (A ++ B) g' (cutF A (f + 1) p).2.1).2) := by
      intro e1 e2
      rw [e1, e2]
      exact ⟨g, h3, rfl⟩
    by_cases c1 : A.length < p + 8
    · exact stay (by unfold cutF; rw [if_pos c1]) (by unfold cutF; rw [if_pos c1])
    by_cases c2 : isSize (numAt A (p + 6) 2) = false
    · exact stay (by unfold cutF; rw [if_neg c1, if_pos c2]) (by unfold cutF; rw [if_neg c1, if_pos c2])
    by_cases c3 : (A.length : Int) < p + numAt A (p + 6) 2
    · exact stay (by unfold cutF; rw [if_neg c1, if_neg c2, if_pos c3]) (by unfold cutF; rw [if_neg c1, if_neg c2, if_pos c3])
    have b := isSize_b (by simpa using c2)
    have hl : (A ++ B).length = A.length + B.length := List.length_append
    obtain ⟨g1, rfl⟩ : ∃ g1, g = g1 + 1 := ⟨g - 1, by omega⟩
    have eA : cutF A (f + 1) p = (msgAt A p (numAt A (p + 6) 2) :: (cutF A f (p + (numAt A (p + 6) 2).toNat)).1, (cutF A f (p + (numAt A (p + 6) 2).toNat)).2) := by
      rw [cutF, if_neg c1, if_neg c2, if_neg c3]
    have eB : cutF (A ++ B) (g1 + 1) p = (msgAt A p (numAt A (p + 6) 2) :: (cutF (A ++ B) g1 (p + (numAt A (p + 6) 2).toNat)).1, (cutF (A ++ B) g1 (p + (numAt A (p + 6) 2).toNat)).2) := by
      rw [cutF, numAt_app (A := A) (B := B) (p := p + 6) (by omega), if_neg (by omega), if_neg c2, if_neg (by omega), msgAt_app (A := A) (B := B) b.1 (by omega)]
    obtain ⟨g', e1, e2⟩ := cutF_app (A := A) (B := B) f (p + (numAt A (p + 6) 2).toNat) (by omega) (by omega) g1 (by omega)
    rw [eA]
    refine ⟨g', e1, ?_⟩
    rw [eB, e2]; rfl
theorem cutR_app (A B : List Int) : cutR (A ++ B) = ((cutR A).1 ++ (cutR (A.drop (cutR A).2.1 ++ B)).1, (cutR A).2.1 + (cutR (A.drop (cutR A).2.1 ++ B)).2.1, (cutR (A.drop (cutR A).2.1 ++ B)).2.2) := by
  obtain ⟨g', e1, e2⟩ := cutF_app (A := A) (B := B) (A.length + 1) 0 (by omega) (Nat.zero_le _) ((A ++ B).length + 1) (by omega)
  have hq := cutR_le A
  have hl : (A ++ B).length = A.length + B.length := List.length_append
  have e : (A ++ B).drop (cutR A).2.1 = A.drop (cutR A).2.1 ++ B := List.drop_append_of_le_length hq
  have e3 := cutF_drop (xs := A ++ B) (q := (cutR A).2.1) (by omega) g' 0
  rw [e, Nat.add_zero] at e3
  have e4 : cutF (A.drop (cutR A).2.1 ++ B) g' 0 = cutR (A.drop (cutR A).2.1 ++ B) := by
    unfold cutR
    refine cutF_fuel _ _ _ ?_ (by omega)
    have e5 : (A.drop (cutR A).2.1 ++ B).length = A.length - (cutR A).2.1 + B.length := by rw [List.length_append, List.length_drop]
    have e1' : (A ++ B).length < (cutR A).2.1 + g' := e1
    unfold cutR at e1' e5 hq
    omega
  rw [e4] at e3
  show cutF (A ++ B) ((A ++ B).length + 1) 0 = _
  refine e2.trans ?_
  show ((cutR A).1 ++ (cutF (A ++ B) g' (cutR A).2.1).1, (cutF (A ++ B) g' (cutR A).2.1).2) = _
  rw [e3]
/-! ### a Mailbox -/
theorem lk_ne {k k' : Str} {v : V} {r : List (Str × V)} (h : (k == k') = false) : List.lookup k ((k', v) :: r) = List.lookup k r := by rw [List.lookup_cons, h]
theorem pk_ne {f g : Str} {v x : V} {r : List (Str × V)} (h : g ≠ f) : putF f v ((g, x) :: r) = (g, x) :: putF f v r := by
  show (if g = f then _ else _) = _
  rw [if_neg h]
theorem pk_eq {f : Str} {v x : V} {r : List (Str × V)} : putF f v ((f, x) :: r) = (f, v) :: r := by
  show (if f = f then _ else _) = _
  rw [if_pos rfl]
def mF (q u : V) (n : Int) : List (Str × V) := [("_queue", q), ("_unread", u), ("_unread_octets", .int n)]
theorem mF_q (q u : V) (n : Int) : (mF q u n).lookup ("_queue" : Str) = some q := by unfold mF; rw [List.lookup_cons_self]
theorem mF_u (q u : V) (n : Int) : (mF q u n).lookup ("_unread" : Str) = some u := by unfold mF; rw [lk_ne (by decide +kernel), List.lookup_cons_self]
theorem mF_n (q u : V) (n : Int) : (mF q u n).lookup ("_unread_octets" : Str) = some (.int n) := by unfold mF; rw [lk_ne (by decide +kernel), lk_ne (by decide +kernel), List.lookup_cons_self]
theorem mF_pn (q u : V) (n m : Int) : putF "_unread_octets" (.int m) (mF q u n) = mF q u m := by
  unfold mF
  rw [pk_ne (by decide +kernel), pk_ne (by decide +kernel), pk_eq]
theorem mF_no (q u : V) (n : Int) {m : Str} (h1 : (m == ("_queue" : Str)) = false) (h2 : (m == ("_unread" : Str)) = false) (h3 : (m == ("_unread_octets" : Str)) = false) : (mF q u n).lookup m = none := by
  unfold mF
  rw [List.lookup_cons, h1, List.lookup_cons, h2, List.lookup_cons, h3]; rfl
/-- a list of lists of integers, all tracked -/
inductive LLs (U : Hp) : List V → List (List Int) → Prop
  | nil : LLs U [] []
  | cons {a : Addr} {m : List Int} {ys : List V} {us : List (List Int)} : U a = some (.lst (m.map V.int)) → LLs U ys us → LLs U (.ref a :: ys) (m :: us)
theorem LLs.to {U U' : Hp} {ys : List V} {us : List (List Int)} (h : LLs U ys us) (s : Same U U') : LLs U' ys us := by
  induction h with
  | nil => exact .nil
  | cons e _ ih => exact .cons (s _ _ e) ih
theorem LLs.len {U : Hp} {ys : List V} {us : List (List Int)} (h : LLs U ys us) : ys.length = us.length := by
  induction h with
  | nil => rfl
  | cons _ _ ih => rw [List.length_cons, List.length_cons, ih]
theorem LLs.push {U : Hp} {ys : List V} {us : List (List Int)} (h : LLs U ys us) {a : Addr} {m : List Int} (e : U a = some (.lst (m.map V.int))) : LLs U (ys ++ [.ref a]) (us ++ [m]) := by
  induction h with
  | nil => exact .cons e .nil
  | cons e0 _ ih => exact .cons e0 ih
theorem LLs.get {U : Hp} {ys : List V} {us : List (List Int)} (h : LLs U ys us) : ∀ {i : Nat} {y : V}, ys[i]? = some y → ∃ m a, us[i]? = some m ∧ y = .ref a ∧ U a = some (.lst (m.map V.int)) := by
  induction h with
  | nil => intro i y e; cases e
  | cons e0 _ ih =>
    intro i y e
    cases i with
    | zero => cases e; exact ⟨_, _, rfl, rfl, e0⟩
    | succ i => exact ih e
theorem LLs.drop {U : Hp} {ys : List V} {us : List (List Int)} (h : LLs U ys us) : ∀ i, LLs U (ys.drop i) (us.drop i) := by
  induction h with
  | nil => intro i; rw [List.drop_nil, List.drop_nil]; exact .nil
  | cons e0 r ih =>
    intro i
    cases i with
    | zero => exact .cons e0 r
    | succ i => exact ih i
structure MbAt (C : Addr) (K : PySem.W.Frag) (U H : Hp) (o dq du : Addr) (qs : List Int) (us : List (List Int)) (n : Int) : Prop where
  sU : Same U H
  uo : U o = none
  uq : U dq = none
  uu : U du = none
  ne : dq ≠ du
  ob : ∃ dx, H o = some (.ins C dx (mF (.ref dq) (.ref du) n))
  lq : H dq = some (.lst (qs.map V.int))
  lu : ∃ ys, H du = some (.lst ys) ∧ LLs U ys us
theorem MbAt.ext {C o dq du : Addr} {K : PySem.W.Frag} {U H U' H' : Hp} {qs : List Int} {us : List (List Int)} {n : Int} (h : MbAt C K U H o dq du qs us n) (x : Ext U H U' H') : MbAt C K U' H' o dq du qs us n := by
  obtain ⟨dx, e⟩ := h.ob
  obtain ⟨ys, e2, d⟩ := h.lu
  exact ⟨x.vh, x.keepOut h.uo (by rw [e]; exact fun z => by cases z), x.keepOut h.uq (by rw [h.lq]; exact fun z => by cases z), x.keepOut h.uu (by rw [e2]; exact fun z => by cases z), h.ne, ⟨dx, x.hh _ _ e⟩, x.hh _ _ h.lq, ⟨ys, x.hh _ _ e2, d.to x.vv⟩⟩
theorem MbAt.same {C o dq du : Addr} {K : PySem.W.Frag} {U H H' : Hp} {qs : List Int} {us : List (List Int)} {n : Int} (h : MbAt C K U H o dq du qs us n) (s : Same H H') : MbAt C K U H' o dq du qs us n := by
  obtain ⟨dx, e⟩ := h.ob
  obtain ⟨ys, e2, d⟩ := h.lu
  exact ⟨h.sU.trans s, h.uo, h.uq, h.uu, h.ne, ⟨dx, s _ _ e⟩, s _ _ h.lq, ⟨ys, s _ _ e2, d⟩⟩
theorem MbAt.noq {C o dq du : Addr} {K : PySem.W.Frag} {U H : Hp} {qs : List Int} {us : List (List Int)} {n : Int} (h : MbAt C K U H o dq du qs us n) : o ≠ dq := by
  obtain ⟨dx, e⟩ := h.ob
  exact ne_of e h.lq (by intro z; cases z)
theorem MbAt.nou {C o dq du : Addr} {K : PySem.W.Frag} {U H : Hp} {qs : List Int} {us : List (List Int)} {n : Int} (h : MbAt C K U H o dq du qs us n) : o ≠ du := by
  obtain ⟨dx, e⟩ := h.ob
  obtain ⟨ys, e2, d⟩ := h.lu
  exact ne_of e e2 (by intro z; cases z)
def fsV (qs : List Int) : V := if 8 ≤ qs.length then .int (numAt qs 6 2) else .non
def sp_Mailbox__front_size (C : Addr) (K : PySem.W.Frag) : Sp := fun vs H Q _ => ∃ (o dq du : Addr) (qs : List Int) (us : List (List Int)) (n : Int) (U : Hp), vs = [.ref o] ∧ MbAt C K U H o dq du qs us n ∧ okOcts qs ∧ ∀ H', Same H H' → Q (fsV qs) H'
theorem sc_Mailbox__front_size : FnScope ["self"] ["self"] (defScope s_Mailbox__front_size) := ⟨rfl, rfl, rfl, by decide +kernel, rfl, by decide +kernel, by decide +kernel⟩
theorem ok_Mailbox__front_size (T : Txt K mg A) : FnOk P w K mg base CX0 2 A.fMailbox__front_size A.dMailbox__front_size ["self"] (sp_Mailbox__front_size A.CMailbox K) := by
  refine T.FMailbox__front_size.ok sc_Mailbox__front_size (fun vs H Q E h => ?_) (fun cdv Ar outer s H vs Q E hr h => ?_)
  · obtain ⟨_, _, _, _, _, _, _, rfl, _⟩ := h
    rfl
  · obtain ⟨o, dq, du, qs, us, n, U, rfl, M, ho, q⟩ := h
    obtain ⟨dx, e1⟩ := M.ob
    refine ⟨_, (pss_one (ps_ret (pe_ifExp (pt_cmpR op_ge (pe_callB call_len_seq (by rfl) T.len PySem.boot_len (pa_cons (pe_fld (pv 0) rfl) pa_nil)) (pe_glob (v := .int (8)) rfl T.gHEADER_SIZE ⟨_, rfl⟩) (nomark _)) (pe_call (ok_number_at T) (hr.mono (by decide)) rfl T.gnumber_at T.knumber_at T.bnumber_at .nil pass0 (pa_cons (pe_fld (pv 0) rfl) (pa_cons pe_int (pa_cons pe_int pa_nil)))) pe_non))), ?_⟩
    unfold fsV at q
    walk_at "go"
    refine ⟨o, _, dx, _, _, rfl, e1, T.clMailbox, T.nMailbox__queue, mF_q _ _ _, ?_⟩
    refine ⟨dq, _, rfl, .inl (SqL.of M.lq), ?_⟩
    rw [List.length_map]
    walk_at "go"
    refine iteP (fun h => ?_) (fun h => ?_)
    · rw [if_pos (by omega)] at q
      walk_at "go"
      refine ⟨o, _, dx, _, _, rfl, e1, T.clMailbox, T.nMailbox__queue, mF_q _ _ _, ?_⟩
      walk_at "go"
      exact ⟨dq, qs, 6, 2, rfl, SqL.of M.lq, ho, by omega, by decide, q⟩
    · rw [if_neg (by omega)] at q
      exact q H (Same.refl _)
def badB (qs : List Int) : Bool := decide (8 ≤ qs.length) && !isSize (numAt qs 6 2)
def sp_Mailbox_is_bad (C : Addr) (K : PySem.W.Frag) : Sp := fun vs H Q _ => ∃ (o dq du : Addr) (qs : List Int) (us : List (List Int)) (n : Int) (U : Hp), vs = [.ref o] ∧ MbAt C K U H o dq du qs us n ∧ okOcts qs ∧ ∀ H', Same H H' → Q (.bl (badB qs)) H'
theorem sc_Mailbox_is_bad : FnScope ["self", "size"] ["self"] (defScope s_Mailbox_is_bad) := ⟨rfl, rfl, rfl, by decide +kernel, rfl, by decide +kernel, by decide +kernel⟩
theorem ok_Mailbox_is_bad (T : Txt K mg A) : FnOk P w K mg base CX0 3 A.fMailbox_is_bad A.dMailbox_is_bad ["self"] (sp_Mailbox_is_bad A.CMailbox K) := by
  refine T.FMailbox_is_bad.ok sc_Mailbox_is_bad (fun vs H Q E h => ?_) (fun cdv Ar outer s H vs Q E hr h => ?_)
  · obtain ⟨_, _, _, _, _, _, _, rfl, _⟩ := h
    rfl
  · obtain ⟨o, dq, du, qs, us, n, U, rfl, M, ho, q⟩ := h
    obtain ⟨dx, e1⟩ := M.ob
    refine ⟨_, (pss_cons (ps_set (i := 1) sc_Mailbox_is_bad.nd rfl (Or.inl rfl) (pe_meth0 (pv 0) T.clMailbox T.mMailbox__front_size (ok_Mailbox__front_size T) (hr.mono (by decide)) T.bMailbox__front_size .nil pass0))
      (pss_one (ps_ret (pe_and (pe_cmpR op_notN (pv 1) pe_non (nomark _)) (pe_one (pe_not (pe_call (ok_is_message_size T) (hr.mono (by decide)) rfl T.gis_message_size T.kis_message_size T.bis_message_size .nil pass0 (pa_cons (pv 1) pa_nil)))))))), ?_⟩
    walk_at "go"
    refine ⟨o, dx, _, rfl, e1, mF_no _ _ _ (by decide +kernel) (by decide +kernel) (by decide +kernel), ?_⟩
    refine ⟨o, dq, du, qs, us, n, U, rfl, M, ho, fun H1 s1 => ?_⟩
    have q' := q H1 s1
    unfold badB at q'
    unfold fsV
    by_cases c : 8 ≤ qs.length
    · rw [if_pos c]
      rw [decide_eq_true c] at q'
      walk_at "go"
      exact q'
    · rw [if_neg c]
      rw [decide_eq_false c] at q'
      walk_at "go"
      exact q'
def has1 (qs : List Int) : Bool := decide (8 ≤ qs.length) && (isSize (numAt qs 6 2) && decide (numAt qs 6 2 ≤ qs.length))
def costV (qs : List Int) : V := if has1 qs = true then .int (1 + (numAt qs 6 2 + 256 - 1) / 256) else .non
def sp_Mailbox_cost (C : Addr) (K : PySem.W.Frag) : Sp := fun vs H Q _ => ∃ (o dq du : Addr) (qs : List Int) (us : List (List Int)) (n : Int) (U : Hp), vs = [.ref o] ∧ MbAt C K U H o dq du qs us n ∧ okOcts qs ∧ ∀ H', Same H H' → Q (costV qs) H'
theorem sc_Mailbox_cost : FnScope ["self", "size"] ["self"] (defScope s_Mailbox_cost) := ⟨rfl, rfl, rfl, by decide +kernel, rfl, by decide +kernel, by decide +kernel⟩
theorem ok_Mailbox_cost (T : Txt K mg A) : FnOk P w K mg base CX0 3 A.fMailbox_cost A.dMailbox_cost ["self"] (sp_Mailbox_cost A.CMailbox K) := by
  refine T.FMailbox_cost.ok sc_Mailbox_cost (fun vs H Q E h => ?_) (fun cdv Ar outer s H vs Q E hr h => ?_)
  · obtain ⟨_, _, _, _, _, _, _, rfl, _⟩ := h
    rfl
  · obtain ⟨o, dq, du, qs, us, n, U, rfl, M, ho, q⟩ := h
    obtain ⟨dx, e1⟩ := M.ob
    refine ⟨_, (pss_cons (ps_set (i := 1) sc_Mailbox_cost.nd rfl (Or.inl rfl) (pe_meth0 (pv 0) T.clMailbox T.mMailbox__front_size (ok_Mailbox__front_size T) (hr.mono (by decide)) T.bMailbox__front_size .nil pass0))
      (pss_cons (ps_if (PW.pt (pw_or (pt_cmpR op_isN (pv 1) pe_non (nomark _)) (pw_or (pt_not (pt_val (pe_call (ok_is_message_size T) (hr.mono (by decide)) rfl T.gis_message_size T.kis_message_size T.bis_message_size .nil pass0 (pa_cons (pv 1) pa_nil)))) (pw_or1 (pt_cmpR op_gt (pv 1) (pe_callB call_len_seq (by rfl) T.len PySem.boot_len (pa_cons (pe_fld (pv 0) rfl) pa_nil)) (nomark _))))))
      (pss_one (ps_ret pe_non))
      pss_nil)
      (pss_one (ps_ret (pe_op op_add pe_int (pe_op op_fdiv (pe_op op_sub (pe_op op_add (pv 1) (pe_glob (v := .int (256)) rfl T.gOCTETS_FOR_A_UNIT ⟨_, rfl⟩)) pe_int) (pe_glob (v := .int (256)) rfl T.gOCTETS_FOR_A_UNIT ⟨_, rfl⟩))))))), ?_⟩
    walk_at "go"
    refine ⟨o, dx, _, rfl, e1, mF_no _ _ _ (by decide +kernel) (by decide +kernel) (by decide +kernel), ?_⟩
    refine ⟨o, dq, du, qs, us, n, U, rfl, M, ho, fun H1 s1 => ?_⟩
    have q' := q H1 s1
    unfold costV has1 at q'
    unfold fsV
    have e2 := s1 _ _ e1
    by_cases c : 8 ≤ qs.length
    · rw [if_pos c]
      rw [decide_eq_true c] at q'
      generalize numAt qs 6 2 = sz at q' ⊢
      walk_at "go"
      cases e : isSize sz with
      | false =>
        rw [e] at q'
        walk_at "go"
        exact q'
      | true =>
        rw [e] at q'
        walk_at "go"
        refine ⟨o, _, dx, _, _, rfl, e2, T.clMailbox, T.nMailbox__queue, mF_q _ _ _, ?_⟩
        refine ⟨dq, _, rfl, .inl (SqL.of (s1 _ _ M.lq)), ?_⟩
        rw [List.length_map]
        walk_at "go"
        refine iteP (fun h => ?_) (fun h => ?_)
        · rw [if_neg (by simp; omega)] at q'
          exact q'
        · rw [if_pos (by simp; omega)] at q'
          walk_at "gx"
          exact q'
    · rw [if_neg c]
      rw [decide_eq_false c] at q'
      walk_at "go"
      exact q'
def slowB (us : List (List Int)) (n : Int) : Bool := decide (1024 < us.length) || decide (65536 < n)
def sp_Mailbox_is_slow (C : Addr) (K : PySem.W.Frag) : Sp := fun vs H Q _ => ∃ (o dq du : Addr) (qs : List Int) (us : List (List Int)) (n : Int) (U : Hp), vs = [.ref o] ∧ MbAt C K U H o dq du qs us n ∧ Q (.bl (slowB us n)) H
theorem sc_Mailbox_is_slow : FnScope ["self"] ["self"] (defScope s_Mailbox_is_slow) := ⟨rfl, rfl, rfl, by decide +kernel, rfl, by decide +kernel, by decide +kernel⟩
theorem ok_Mailbox_is_slow (T : Txt K mg A) : FnOk P w K mg base CX0 1 A.fMailbox_is_slow A.dMailbox_is_slow ["self"] (sp_Mailbox_is_slow A.CMailbox K) := by
  refine T.FMailbox_is_slow.ok sc_Mailbox_is_slow (fun vs H Q E h => ?_) (fun cdv Ar outer s H vs Q E hr h => ?_)
  · obtain ⟨_, _, _, _, _, _, _, rfl, _⟩ := h
    rfl
  · obtain ⟨o, dq, du, qs, us, n, U, rfl, M, q⟩ := h
    obtain ⟨dx, e1⟩ := M.ob
    obtain ⟨ys, eu, du'⟩ := M.lu
    have hy : ys.length = us.length := du'.len
    refine ⟨_, (pss_one (ps_ret (pe_or (pe_cmpR op_gt (pe_callB call_len_seq (by rfl) T.len PySem.boot_len (pa_cons (pe_fld (pv 0) rfl) pa_nil)) (pe_glob (v := .int (1024)) rfl T.gMOST_UNREAD ⟨_, rfl⟩) (nomark _)) (pe_one (pe_cmpR op_gt (pe_fld (pv 0) rfl) (pe_glob (v := .int (65536)) rfl T.gMOST_UNREAD_OCTETS ⟨_, rfl⟩) (nomark _)))))), ?_⟩
    walk_at "go"
    refine ⟨o, _, dx, _, _, rfl, e1, T.clMailbox, T.nMailbox__unread, mF_u _ _ _, ?_⟩
    refine ⟨du, _, rfl, .inl (SqL.of eu), ?_⟩
    walk_at "go"
    unfold slowB at q
    refine iteP (fun h => ?_) (fun h => ?_)
    · rw [decide_eq_true (show 1024 < us.length by omega), Bool.true_or] at q
      exact q
    · rw [decide_eq_false (show ¬ 1024 < us.length by omega), Bool.false_or] at q
      walk_at "go"
      refine ⟨o, _, dx, _, _, rfl, e1, T.clMailbox, T.nMailbox__unread_octets, mF_n _ _ _, ?_⟩
      walk_at "go"
      exact q
/-! ### a Mailbox that changes -/
theorem len_lineW {n : Nat} (h : n ≤ 16000000) : n ≤ sizeLine := Nat.le_trans h (by decide)
theorem okO_app {xs ys : List Int} (h : okOcts xs) (g : okOcts ys) : okOcts (xs ++ ys) := fun x hx => by
  rcases List.mem_append.mp hx with z | z
  · exact h x z
  · exact g x z
theorem okO_take {xs : List Int} (h : okOcts xs) (n : Nat) : okOcts (xs.take n) := fun x hx => h x (List.mem_of_mem_take hx)
theorem okO_drop {xs : List Int} (h : okOcts xs) (n : Nat) : okOcts (xs.drop n) := fun x hx => h x (List.mem_of_mem_drop hx)
def sp_Mailbox___init__ (C : Addr) (K : PySem.W.Frag) : Sp := fun vs H Q _ => ∃ (o dx : Addr) (U : Hp), vs = [.ref o] ∧ H o = some (.ins C dx []) ∧ Same U H ∧ U o = none ∧
  ∀ (dq du : Addr) (H' : Hp), (∀ b u, H b = some u → b ≠ o → H' b = some u) → MbAt C K U H' o dq du [] [] 0 → Q .non H'
theorem sc_Mailbox___init__ : FnScope ["self"] ["self"] (defScope s_Mailbox___init__) := ⟨rfl, rfl, rfl, by decide +kernel, rfl, by decide +kernel, by decide +kernel⟩
theorem ok_Mailbox___init__ (T : Txt K mg A) : FnOk P w K mg base CX0 1 A.fMailbox___init__ A.dMailbox___init__ ["self"] (sp_Mailbox___init__ A.CMailbox K) := by
  refine T.FMailbox___init__.ok sc_Mailbox___init__ (fun vs H Q E h => ?_) (fun cdv Ar outer s H vs Q E hr h => ?_)
  · obtain ⟨_, _, _, rfl, _⟩ := h
    rfl
  · obtain ⟨o, dx, U, rfl, ho, sU, uo, q⟩ := h
    refine ⟨_, (pss_cons (ps_fld (pv 0) (pe_lst pa_nil) rfl)
      (pss_cons (ps_fld (pv 0) (pe_lst pa_nil) rfl)
      (pss_one (ps_fld (pv 0) pe_int rfl)))), ?_⟩
    refine ⟨len_line (by show 0 ≤ 100000; decide), fun d hd => ?_⟩
    have hod : o ≠ d := ne_of_none ho hd
    have ho2 : (upd H d (.lst [])) o = some (.ins A.CMailbox dx []) := by rw [upd_ne hod]; exact ho
    refine ⟨_, rfl, o, _, dx, _, rfl, ho2, T.clMailbox, T.nMailbox__queue, (by show 0 < 1000; decide), ?_⟩
    have k1 : ∀ b u, H b = some u → b ≠ o → (upd (upd H d (.lst [])) o (.ins A.CMailbox dx (putF "_queue" (.ref d) []))) b = some u := fun b u e hb => by rw [upd_ne hb, upd_ne (ne_of_none e hd)]; exact e
    have d1 : (upd (upd H d (.lst [])) o (.ins A.CMailbox dx (putF "_queue" (.ref d) []))) d = some (.lst []) := by rw [upd_ne hod.symm, upd_same]
    have o1 : (upd (upd H d (.lst [])) o (.ins A.CMailbox dx (putF "_queue" (.ref d) []))) o = some (.ins A.CMailbox dx (putF "_queue" (.ref d) [])) := upd_same
    generalize upd (upd H d (.lst [])) o (.ins A.CMailbox dx (putF "_queue" (.ref d) [])) = H1 at k1 d1 o1 ⊢
    refine ⟨len_line (by show 0 ≤ 100000; decide), fun e he => ?_⟩
    have hoe : o ≠ e := ne_of_none o1 he
    have hde : d ≠ e := ne_of_none d1 he
    have o2 : (upd H1 e (.lst [])) o = some (.ins A.CMailbox dx (putF "_queue" (.ref d) [])) := by rw [upd_ne hoe]; exact o1
    refine ⟨_, rfl, o, _, dx, _, rfl, o2, T.clMailbox, T.nMailbox__unread, (by show 1 < 1000; decide), ?_⟩
    refine ⟨_, rfl, o, _, dx, _, rfl, upd_same, T.clMailbox, T.nMailbox__unread_octets, (by show 2 < 1000; decide), ?_⟩
    have hHe : H e = none := by
      cases c : H e with
      | none => rfl
      | some u =>
        have := k1 e u c hoe.symm
        rw [he] at this; cases this
    have kk : ∀ b u, H b = some u → b ≠ o → (upd (upd (upd H1 e (.lst [])) o (.ins A.CMailbox dx (putF "_unread" (.ref e) (putF "_queue" (.ref d) [])))) o (.ins A.CMailbox dx (putF "_unread_octets" (.int 0) (putF "_unread" (.ref e) (putF "_queue" (.ref d) []))))) b = some u := fun b u c hb => by
      rw [upd_ne hb, upd_ne hb, upd_ne (ne_of_none c hHe)]; exact k1 b u c hb
    have oo := (upd_same : (upd (upd (upd H1 e (.lst [])) o (.ins A.CMailbox dx (putF "_unread" (.ref e) (putF "_queue" (.ref d) [])))) o (.ins A.CMailbox dx (putF "_unread_octets" (.int 0) (putF "_unread" (.ref e) (putF "_queue" (.ref d) []))))) o = some _)
    have dd : (upd (upd (upd H1 e (.lst [])) o (.ins A.CMailbox dx (putF "_unread" (.ref e) (putF "_queue" (.ref d) [])))) o (.ins A.CMailbox dx (putF "_unread_octets" (.int 0) (putF "_unread" (.ref e) (putF "_queue" (.ref d) []))))) d = some (.lst []) := by
      rw [upd_ne hod.symm, upd_ne hod.symm, upd_ne hde]; exact d1
    have ee : (upd (upd (upd H1 e (.lst [])) o (.ins A.CMailbox dx (putF "_unread" (.ref e) (putF "_queue" (.ref d) [])))) o (.ins A.CMailbox dx (putF "_unread_octets" (.int 0) (putF "_unread" (.ref e) (putF "_queue" (.ref d) []))))) e = some (.lst []) := by
      rw [upd_ne hoe.symm, upd_ne hoe.symm, upd_same]
    refine q d e _ kk ⟨fun b u c => kk b u (sU b u c) (fun z => by rw [z, uo] at c; cases c), uo, sU.free hd, sU.free hHe, hde, ⟨dx, ?_⟩, dd, ⟨[], ee, .nil⟩⟩
    rw [oo]
    have e1 : putF "_queue" (.ref d) [] = [(("_queue" : Str), V.ref d)] := rfl
    have e2 : putF "_unread" (.ref e) [(("_queue" : Str), V.ref d)] = [(("_queue" : Str), V.ref d), (("_unread" : Str), V.ref e)] := by rw [pk_ne (by decide +kernel)]; rfl
    have e3 : putF "_unread_octets" (.int 0) [(("_queue" : Str), V.ref d), (("_unread" : Str), V.ref e)] = mF (.ref d) (.ref e) 0 := by rw [pk_ne (by decide +kernel), pk_ne (by decide +kernel)]; rfl
    rw [e1, e2, e3]
def putQ (qs zs : List Int) : List Int := qs ++ zs.take (16384 - qs.length)
def sp_Mailbox_put (C : Addr) (K : PySem.W.Frag) : Sp := fun vs H Q _ => ∃ (o dq du b : Addr) (qs zs : List Int) (us : List (List Int)) (n : Int) (U : Hp), vs = [.ref o, .ref b] ∧ MbAt C K U H o dq du qs us n ∧ H b = some (.lst (zs.map V.int)) ∧ qs.length ≤ 16384 ∧
  ∀ H', (∀ c u, H c = some u → c ≠ dq → H' c = some u) → MbAt C K U H' o dq du (putQ qs zs) us n → Q (.int ((zs.take (16384 - qs.length)).length : Int)) H'
theorem sc_Mailbox_put : FnScope ["self", "octets", "taken"] ["self", "octets"] (defScope s_Mailbox_put) := ⟨rfl, rfl, rfl, by decide +kernel, rfl, by decide +kernel, by decide +kernel⟩
theorem ok_Mailbox_put (T : Txt K mg A) : FnOk P w K mg base CX0 1 A.fMailbox_put A.dMailbox_put ["self", "octets"] (sp_Mailbox_put A.CMailbox K) := by
  refine T.FMailbox_put.ok sc_Mailbox_put (fun vs H Q E h => ?_) (fun cdv Ar outer s H vs Q E hr h => ?_)
  · obtain ⟨_, _, _, _, _, _, _, _, _, rfl, _⟩ := h
    rfl
  · obtain ⟨o, dq, du, b, qs, zs, us, n, U, rfl, M, hb, hl, q⟩ := h
    obtain ⟨dx, e1⟩ := M.ob
    refine ⟨_, (pss_cons (ps_set (i := 2) sc_Mailbox_put.nd rfl (Or.inl rfl) (pe_slice (r := rSlL K) sl_list (pv 1) po_none (po_some (pe_op op_sub (pe_glob (v := .int (16384)) rfl T.gMOST_QUEUED ⟨_, rfl⟩) (pe_callB call_len_seq (by rfl) T.len PySem.boot_len (pa_cons (pe_fld (pv 0) rfl) pa_nil))))))
      (pss_cons (ps_expr (pe_bm PySem.F.plainAttrs_list PySem.F.slot_list_extend PySem.F.type_list_extend mt_extend (pe_fld (pv 0) rfl) (pa_cons (pv 2) pa_nil)))
      (pss_one (ps_ret (pe_callB call_len_seq (by rfl) T.len PySem.boot_len (pa_cons (pv 2) pa_nil)))))), ?_⟩
    walk_at "go"
    refine ⟨o, _, dx, _, _, rfl, e1, T.clMailbox, T.nMailbox__queue, mF_q _ _ _, ?_⟩
    refine ⟨dq, _, rfl, .inl (SqL.of M.lq), ?_⟩
    rw [List.length_map]
    walk_at "go"
    refine ⟨b, _, rfl, SqL.of hb, fun p hp => ?_⟩
    have ez : cutV (zs.map V.int) none (some ((16384 : Int) - (qs.length : Int))) = (zs.take (16384 - qs.length)).map V.int := by
      have e0 : ((16384 : Int) - (qs.length : Int)) = ((16384 - qs.length : Nat) : Int) := by omega
      rw [e0]
      rw [List.map_take]
      by_cases c : 16384 - qs.length ≤ zs.length
      · exact cutV_to (by rw [List.length_map]; exact c)
      · unfold cutV
        rw [HT.sIx_nat, HT.sIx_none, Nat.min_eq_right (by rw [List.length_map]; omega), List.take_of_length_le (i := 16384 - qs.length) (by rw [List.length_map]; omega)]
        exact List.take_of_length_le (by rw [List.length_drop]; exact Nat.le_refl _)
    rw [ez]
    have s1 := same_upd (o := .lst ((zs.take (16384 - qs.length)).map V.int)) hp
    have M1 := M.same s1
    have ep : (upd H p (.lst ((zs.take (16384 - qs.length)).map V.int))) p = some (.lst ((zs.take (16384 - qs.length)).map V.int)) := upd_same
    have np : dq ≠ p := ne_of_none M.lq hp
    generalize upd H p (.lst ((zs.take (16384 - qs.length)).map V.int)) = H1 at s1 M1 ep ⊢
    obtain ⟨dx1, o1⟩ := M1.ob
    walk_at "go"
    refine ⟨o, _, dx1, _, _, rfl, o1, T.clMailbox, T.nMailbox__queue, mF_q _ _ _, ?_⟩
    refine ⟨.inl ⟨rfl, _, SqL.of M1.lq⟩, ?_⟩
    walk_at "go"
    refine ⟨dq, p, _, _, rfl, rfl, M1.lq, ep, ?_, ?_⟩
    · rw [List.length_map, List.length_map, List.length_take]; exact len_lineW (by omega)
    rw [← List.map_append]
    walk_at "go"
    refine ⟨p, _, rfl, .inl (SqL.of (by rw [upd_ne np.symm]; exact ep)), ?_⟩
    rw [List.length_map]
    refine q _ (fun c u e hc => by rw [upd_ne hc]; exact s1 _ _ e) ?_
    obtain ⟨ys, e2, d2⟩ := M1.lu
    exact ⟨same_poke M1.sU M.uq, M.uo, M.uq, M.uu, M.ne, ⟨dx1, by rw [upd_ne M1.noq]; exact o1⟩, upd_same, ⟨ys, by rw [upd_ne M.ne.symm]; exact e2, d2⟩⟩
def sp_Mailbox_tell (C : Addr) (K : PySem.W.Frag) : Sp := fun vs H Q _ => ∃ (o dq du b : Addr) (qs zs : List Int) (us : List (List Int)) (n : Int) (U : Hp), vs = [.ref o, .ref b] ∧ MbAt C K U H o dq du qs us n ∧ H b = some (.lst (zs.map V.int)) ∧ b ≠ du ∧ us.length ≤ 90000 ∧
  ∀ U' H', Grow U H U' H' → (∀ c u, H c = some u → c ≠ o → c ≠ du → H' c = some u) → MbAt C K U' H' o dq du qs (us ++ [zs]) (n + zs.length) → Q .non H'
theorem sc_Mailbox_tell : FnScope ["self", "octets"] ["self", "octets"] (defScope s_Mailbox_tell) := ⟨rfl, rfl, rfl, by decide +kernel, rfl, by decide +kernel, by decide +kernel⟩
theorem ok_Mailbox_tell (T : Txt K mg A) : FnOk P w K mg base CX0 1 A.fMailbox_tell A.dMailbox_tell ["self", "octets"] (sp_Mailbox_tell A.CMailbox K) := by
  refine T.FMailbox_tell.ok sc_Mailbox_tell (fun vs H Q E h => ?_) (fun cdv Ar outer s H vs Q E hr h => ?_)
  · obtain ⟨_, _, _, _, _, _, _, _, _, rfl, _⟩ := h
    rfl
  · obtain ⟨o, dq, du, b, qs, zs, us, n, U, rfl, M, hb, hbu, hl, q⟩ := h
    obtain ⟨dx, e1⟩ := M.ob
    refine ⟨_, (pss_cons (ps_expr (pe_bm PySem.F.plainAttrs_list PySem.F.slot_list_append PySem.F.type_list_append mt_append (pe_fld (pv 0) rfl) (pa_cons (pe_callTy call_list_of (by rfl) T.list (by decide +kernel) (pa_cons (pv 1) pa_nil)) pa_nil)))
      (pss_one (ps_fldaug (pv 0) (pe_callB call_len_seq (by rfl) T.len PySem.boot_len (pa_cons (pv 1) pa_nil)) in_add))), ?_⟩
    walk_at "go"
    refine ⟨o, _, dx, _, _, rfl, e1, T.clMailbox, T.nMailbox__unread, mF_u _ _ _, ?_⟩
    obtain ⟨ys0, eu0, _⟩ := M.lu
    refine ⟨.inl ⟨rfl, _, SqL.of eu0⟩, ?_⟩
    walk_at "go"
    intro p hp
    have x1 := Ext.new (o := .lst (zs.map V.int)) M.sU hp
    have M1 := M.ext x1
    have ep : (upd U p (.lst (zs.map V.int))) p = some (.lst (zs.map V.int)) := upd_same
    generalize upd U p (.lst (zs.map V.int)) = U1 at x1 M1 ep
    generalize upd H p (.lst (zs.map V.int)) = H1 at x1 M1 ⊢
    obtain ⟨ys, eu, dy⟩ := M1.lu
    have hy : ys.length = us.length := dy.len
    refine ⟨du, _, _, rfl, rfl, eu, ?_, ?_⟩
    · exact Nat.lt_of_lt_of_le (m := 100000) (by omega) (by decide)
    obtain ⟨dx1, o1⟩ := M1.ob
    have o2 : (upd H1 du (.lst (ys ++ [.ref p]))) o = some (.ins A.CMailbox dx1 (mF (.ref dq) (.ref du) n)) := by rw [upd_ne M1.nou]; exact o1
    walk_at "go"
    refine ⟨o, _, dx1, _, _, rfl, o2, T.clMailbox, T.nMailbox__unread_octets, mF_n _ _ _, ?_⟩
    walk_at "go"
    refine ⟨b, _, rfl, .inl (SqL.of (by rw [upd_ne hbu]; exact x1.hh _ _ hb)), ?_⟩
    rw [List.length_map]
    refine ⟨_, _, rfl, rfl, dx1, _, o2, (by show 3 < 1000; decide), ?_⟩
    rw [mF_pn]
    refine q U1 _ ((x1.grow.poke M1.uu).poke M1.uo) (fun c u e h1 h2 => by rw [upd_ne h1, upd_ne h2]; exact x1.hh _ _ e) ⟨same_poke (same_poke M1.sU M1.uu) M1.uo, M1.uo, M1.uq, M1.uu, M1.ne, ⟨dx1, upd_same⟩, ?_, ⟨ys ++ [.ref p], ?_, ?_⟩⟩
    · rw [upd_ne M1.noq.symm, upd_ne M1.ne]; exact M1.lq
    · rw [upd_ne M1.nou.symm]; exact upd_same
    · exact dy.push ep
theorem has1_cut {qs : List Int} (h : has1 qs = true) : 8 ≤ (numAt qs 6 2).toNat ∧ (numAt qs 6 2).toNat ≤ qs.length ∧ ((numAt qs 6 2).toNat : Int) = numAt qs 6 2 ∧ isSize (numAt qs 6 2) = true ∧ 8 ≤ qs.length := by
  unfold has1 at h
  rw [Bool.and_eq_true, Bool.and_eq_true] at h
  have h1 := of_decide_eq_true h.1
  have h2 := of_decide_eq_true h.2.2
  have h3 := isSize_b h.2.1
  exact ⟨by omega, by omega, by omega, h.2.1, h1⟩
theorem cutR_has1 {qs : List Int} (h : has1 qs = true) : ∃ r, cutR qs = (msgAt qs 0 (numAt qs 6 2) :: r, (cutR qs).2) := by
  obtain ⟨h1, h2, h3, h4, h5⟩ := has1_cut h
  have e : cutR qs = (msgAt qs 0 (numAt qs 6 2) :: (cutF qs qs.length (0 + (numAt qs (0 + 6) 2).toNat)).1, (cutF qs qs.length (0 + (numAt qs (0 + 6) 2).toNat)).2) := by
    rw [cutR, cutF, if_neg (show ¬ qs.length < 0 + 8 by omega), if_neg (by rw [Nat.zero_add, h4]; decide), if_neg (by rw [Nat.zero_add]; omega)]
  rw [e]
  exact ⟨_, rfl⟩
theorem cutR_no1 {qs : List Int} (h : has1 qs = false) : (cutR qs).1 = [] ∧ (cutR qs).2.2 = badB qs := by
  unfold has1 at h
  rw [cutR, cutF, badB, Nat.zero_add, Nat.zero_add]
  by_cases c : 8 ≤ qs.length
  · rw [decide_eq_true c, Bool.true_and] at h
    rw [decide_eq_true c, Bool.true_and, if_neg (show ¬ qs.length < 8 by omega)]
    cases e : isSize (numAt qs 6 2) with
    | false => rw [if_pos rfl]; exact ⟨rfl, rfl⟩
    | true =>
      rw [e, Bool.true_and] at h
      have := of_decide_eq_false h
      rw [if_neg (by decide), if_pos (by omega)]; exact ⟨rfl, rfl⟩
  · rw [if_pos (by omega), decide_eq_false c]; exact ⟨rfl, rfl⟩
theorem cutR_one {qs : List Int} (h : has1 qs = true) : cutR (qs.take (numAt qs 6 2).toNat) = ([msgAt qs 0 (numAt qs 6 2)], (numAt qs 6 2).toNat, false) := by
  obtain ⟨h1, h2, h3, h4, h5⟩ := has1_cut h
  have hl : (qs.take (numAt qs 6 2).toNat).length = (numAt qs 6 2).toNat := by rw [List.length_take]; omega
  have e := numAt_app (A := qs.take (numAt qs 6 2).toNat) (B := qs.drop (numAt qs 6 2).toNat) (p := 6) (n := 2) (by omega)
  rw [List.take_append_drop] at e
  have e2 := msgAt_app (A := qs.take (numAt qs 6 2).toNat) (B := qs.drop (numAt qs 6 2).toNat) (p := 0) (s := numAt qs 6 2) (by omega) (by omega)
  rw [List.take_append_drop] at e2
  rw [cutR, cutF, Nat.zero_add, Nat.zero_add, Nat.zero_add, ← e, ← e2, hl, if_neg (show ¬ (numAt qs 6 2).toNat < 8 by omega), if_neg (by rw [h4]; decide), if_neg (by omega)]
  have e3 : cutF (qs.take (numAt qs 6 2).toNat) (numAt qs 6 2).toNat (numAt qs 6 2).toNat = ([], (numAt qs 6 2).toNat, false) := by
    obtain ⟨g, hg⟩ : ∃ g, (numAt qs 6 2).toNat = g + 1 := ⟨(numAt qs 6 2).toNat - 1, by omega⟩
    rw [hg, cutF, if_pos (by rw [← hg]; omega)]
  rw [e3]
def sp_Mailbox_take (C : Addr) (K : PySem.W.Frag) : Sp := fun vs H Q _ => ∃ (o dq du : Addr) (qs : List Int) (us : List (List Int)) (n : Int) (U : Hp), vs = [.ref o] ∧ MbAt C K U H o dq du qs us n ∧ okOcts qs ∧ has1 qs = true ∧
  ∀ v U' H', Grow U H U' H' → (∀ c u, H c = some u → c ≠ dq → H' c = some u) → MbAt C K U' H' o dq du (qs.drop (numAt qs 6 2).toNat) us n → Dp K U' v (msgD (msgAt qs 0 (numAt qs 6 2))) → Q v H'
theorem sc_Mailbox_take : FnScope ["self", "size", "messages", "_"] ["self"] (defScope s_Mailbox_take) := ⟨rfl, rfl, rfl, by decide +kernel, rfl, by decide +kernel, by decide +kernel⟩
theorem ok_Mailbox_take (T : Txt K mg A) : FnOk P w K mg base CX0 4 A.fMailbox_take A.dMailbox_take ["self"] (sp_Mailbox_take A.CMailbox K) := by
  refine T.FMailbox_take.ok sc_Mailbox_take (fun vs H Q E h => ?_) (fun cdv Ar outer s H vs Q E hr h => ?_)
  · obtain ⟨_, _, _, _, _, _, _, rfl, _⟩ := h
    rfl
  · obtain ⟨o, dq, du, qs, us, n, U, rfl, M, ho, hh, q⟩ := h
    obtain ⟨dx, e1⟩ := M.ob
    obtain ⟨h1, h2, h3, h4, h5⟩ := has1_cut hh
    have hone := cutR_one hh
    have hb := (isSize_b h4).2
    refine ⟨_, (pss_cons (ps_set (i := 1) sc_Mailbox_take.nd rfl (Or.inl rfl) (pe_meth0 (pv 0) T.clMailbox T.mMailbox__front_size (ok_Mailbox__front_size T) (hr.mono (by decide)) T.bMailbox__front_size .nil pass0))
      (pss_cons (ps_asg (pe_call (ok_cut_messages T) (hr.mono (by decide)) rfl T.gcut_messages T.kcut_messages T.bcut_messages .nil pass0 (pa_cons (pe_slice (r := rSlL K) sl_list (pe_fld (pv 0) rfl) po_none (po_some (pv 1))) pa_nil)) (pg_tup rfl (pgs_cons (pg_name (i := 2) sc_Mailbox_take.nd rfl (Or.inl rfl)) (pgs_cons (pg_name (i := 3) sc_Mailbox_take.nd rfl (Or.inl rfl)) (pgs_cons (pg_name (i := 3) sc_Mailbox_take.nd rfl (Or.inl rfl)) pgs_nil)))))
      (pss_cons (ps_delTo (pe_fld (pv 0) rfl) (po_some (pv 1)))
      (pss_one (ps_ret (pe_ix (r := rIxL K) ix_list (pv 2) pe_int (fun _ _ => rfl))))))), ?_⟩
    walk_at "go"
    refine ⟨o, dx, _, rfl, e1, mF_no _ _ _ (by decide +kernel) (by decide +kernel) (by decide +kernel), ?_⟩
    refine ⟨o, dq, du, qs, us, n, U, rfl, M, ho, fun H1 s1 => ?_⟩
    have M1 := M.same s1
    unfold fsV
    rw [if_pos h5]
    generalize numAt qs 6 2 = sz at q h1 h2 h3 h4 hone hb ⊢
    obtain ⟨k, rfl⟩ : ∃ k : Nat, sz = k := ⟨sz.toNat, h3.symm⟩
    rw [Int.toNat_natCast] at q h1 h2 hone
    obtain ⟨dx1, o1⟩ := M1.ob
    walk_at "go"
    refine ⟨o, _, dx1, _, _, rfl, o1, T.clMailbox, T.nMailbox__queue, mF_q _ _ _, ?_⟩
    walk_at "go"
    refine ⟨dq, _, rfl, SqL.of M1.lq, fun p hp => ?_⟩
    rw [cutV_to (by rw [List.length_map]; exact h2), ← List.map_take]
    have sp := same_upd (o := .lst ((qs.take k).map V.int)) hp
    have M2 := M1.same sp
    have ep : (upd H1 p (.lst ((qs.take k).map V.int))) p = some (.lst ((qs.take k).map V.int)) := upd_same
    generalize upd H1 p (.lst ((qs.take k).map V.int)) = H2 at sp M2 ep ⊢
    refine ⟨p, qs.take k, U, rfl, M2.sU, SqL.of ep, okO_take ho _, by rw [List.length_take]; omega, fun t m b U3 H3 x3 t3 d3 dm e3 => ?_⟩
    rw [hone] at t3 dm
    have M3 := M2.ext x3
    obtain ⟨am, xm, hm1, sm, dam⟩ := dp_list dm
    obtain rfl : m = am := by cases hm1; rfl
    have t3' := x3.vh _ _ t3
    refine ⟨t, _, rfl, SqT.of t3', rfl, _, _, rfl, _, _, rfl, _, _, rfl, rfl, ?_⟩
    obtain ⟨dx3, o3⟩ := M3.ob
    walk_at "go"
    refine ⟨o, _, dx3, _, _, rfl, o3, T.clMailbox, T.nMailbox__queue, mF_q _ _ _, ?_⟩
    walk_at "go"
    refine ⟨dq, _, k, rfl, rfl, M3.lq, by rw [List.length_map]; exact h2, ?_⟩
    rw [← List.map_drop]
    have M4 : MbAt A.CMailbox K U3 (upd H3 dq (.lst ((qs.drop k).map V.int))) o dq du (qs.drop k) us n := by
      obtain ⟨ys, e2, d2⟩ := M3.lu
      exact ⟨same_poke M3.sU M3.uq, M3.uo, M3.uq, M3.uu, M3.ne, ⟨dx3, by rw [upd_ne M3.noq]; exact o3⟩, upd_same, ⟨ys, by rw [upd_ne M3.ne.symm]; exact e2, d2⟩⟩
    have g4 : Grow U H U3 (upd H3 dq (.lst ((qs.drop k).map V.int))) := ((x3.grow.from_ (none_same (s1.trans sp))).poke M3.uq)
    have b4 : ∀ c u, H c = some u → c ≠ dq → (upd H3 dq (.lst ((qs.drop k).map V.int))) c = some u := fun c u e hc => by rw [upd_ne hc]; exact x3.hh _ _ (sp _ _ (s1 _ _ e))
    generalize upd H3 dq (.lst ((qs.drop k).map V.int)) = H4 at M4 g4 b4 ⊢
    obtain ⟨v, hv, dv⟩ := dpall_get' (i := 0) (d := msgD (msgAt qs 0 (k : Int))) dam rfl
    walk_at "go"
    exact ⟨m, _, _, v, rfl, rfl, (M4.sU.seq sm), at_of (j := 0) rfl hv, q v U3 H4 g4 b4 M4 dv⟩
/-! ### Mailbox.read -/
def rdC (most : Int) (acc : List Int) : List (List Int) → List Int × List (List Int)
  | [] => (acc, [])
  | m :: r => if most < (acc.length : Int) + m.length then (acc, m :: r) else rdC most (acc ++ m) r
def sumL (us : List (List Int)) : Int := (us.map fun u => (u.length : Int)).sum
theorem sumL_app (a b : List (List Int)) : sumL (a ++ b) = sumL a + sumL b := by unfold sumL; rw [List.map_append, List.sum_append]
theorem sumL_one (a : List Int) : sumL [a] = a.length := by unfold sumL; show ((a.length : Int) + 0) = _; omega
theorem rdC_sum (most : Int) : ∀ (us : List (List Int)) (acc : List Int), ((rdC most acc us).1.length : Int) + sumL (rdC most acc us).2 = acc.length + sumL us
  | [], acc => rfl
  | m :: r, acc => by
    unfold rdC
    split
    · rfl
    · rw [rdC_sum most r (acc ++ m), List.length_append]
      show (((acc.length + m.length : Nat)) : Int) + sumL r = acc.length + ((m.length : Int) + sumL r)
      omega
theorem rdC_len (most : Int) : ∀ (us : List (List Int)) (acc : List Int), (acc.length : Int) ≤ most → ((rdC most acc us).1.length : Int) ≤ most
  | [], acc, h => h
  | m :: r, acc, h => by
    unfold rdC
    split
    · exact h
    · exact rdC_len most r (acc ++ m) (by rw [List.length_append]; omega)
theorem drop_at {us : List (List Int)} {i : Nat} {m : List Int} (h : us[i]? = some m) : us.drop i = m :: us.drop (i + 1) := by
  obtain ⟨hi, e⟩ := List.getElem?_eq_some_iff.mp h
  rw [List.drop_eq_getElem_cons hi, e]
def sp_Mailbox_read (C : Addr) (K : PySem.W.Frag) : Sp := fun vs H Q _ => ∃ (o dq du : Addr) (qs : List Int) (us : List (List Int)) (n most : Int) (U : Hp), vs = [.ref o, .int most] ∧ MbAt C K U H o dq du qs us n ∧ (∀ u ∈ us, u.length ≤ 100000) ∧ us.length ≤ 90000 ∧ 0 ≤ most ∧ most ≤ 20000 ∧
  ∀ p H', (∀ c u, H c = some u → c ≠ o → c ≠ du → H' c = some u) → H p = none → H' p = some (.lst ((rdC most [] us).1.map V.int)) → MbAt C K U H' o dq du qs (rdC most [] us).2 (n - (rdC most [] us).1.length) → Q (.ref p) H'
theorem sc_Mailbox_read : FnScope ["self", "most", "octets", "count", "message"] ["self", "most"] (defScope s_Mailbox_read) := ⟨rfl, rfl, rfl, by decide +kernel, rfl, by decide +kernel, by decide +kernel⟩
theorem ok_Mailbox_read (T : Txt K mg A) : FnOk P w K mg base CX0 1 A.fMailbox_read A.dMailbox_read ["self", "most"] (sp_Mailbox_read A.CMailbox K) := by
  refine T.FMailbox_read.ok sc_Mailbox_read (fun vs H Q E h => ?_) (fun cdv Ar outer s H vs Q E hr h => ?_)
  · obtain ⟨_, _, _, _, _, _, _, _, rfl, _⟩ := h
    rfl
  · obtain ⟨o, dq, du, qs, us, n, most, U, rfl, M, hu, hl, hm0, hm, q⟩ := h
    obtain ⟨dx, e1⟩ := M.ob
    obtain ⟨ys, eu, dy⟩ := M.lu
    have hy : ys.length = us.length := dy.len
    refine ⟨_, (pss_cons (ps_set (i := 2) sc_Mailbox_read.nd rfl (Or.inl rfl) (pe_lst pa_nil))
      (pss_cons (ps_set (i := 3) sc_Mailbox_read.nd rfl (Or.inl rfl) pe_int)
      (C8.pss_cut (ps_for PassesOwn.never rfl (pi_list (pe_fld (pv 0) rfl)) (pg_name (i := 4) sc_Mailbox_read.nd rfl (Or.inl rfl))
      (pss_cons (ps_if (pt_cmpR op_gt (pe_op op_add (pe_callB call_len_seq (by rfl) T.len PySem.boot_len (pa_cons (pv 2) pa_nil)) (pe_callB call_len_seq (by rfl) T.len PySem.boot_len (pa_cons (pv 4) pa_nil))) (pv 1) (nomark _))
      (pss_one ps_break)
      pss_nil)
      (pss_cons (ps_expr (pe_bm PySem.F.plainAttrs_list PySem.F.slot_list_extend PySem.F.type_list_extend mt_extend (pv 2) (pa_cons (pv 4) pa_nil)))
      (pss_one (ps_aug (i := 3) sc_Mailbox_read.nd rfl (Or.inl rfl) pe_int ip_add)))))
      (pss_cons (ps_delTo (pe_fld (pv 0) rfl) (po_some (pv 3)))
      (pss_cons (ps_fldaug (pv 0) (pe_callB call_len_seq (by rfl) T.len PySem.boot_len (pa_cons (pv 2) pa_nil)) in_sub)
      (pss_one (ps_ret (pv 2)))))))), ?_⟩
    refine ⟨by decide, fun p hp => ?_⟩
    have sp := same_upd (o := .lst []) hp
    have e2 := sp _ _ e1
    have eu2 := sp _ _ eu
    have npd : du ≠ p := ne_of_none eu hp
    walk_at "go"
    refine ⟨fun σ H1 => ∃ (i : Nat) (acc : List Int) (v4 : Option V), σ = [some (.ref o), some (.int most), some (.ref p), some (.int (i : Int)), v4] ∧ Same H H1 ∧ H1 p = some (.lst (acc.map V.int)) ∧ i ≤ us.length ∧ rdC most [] us = (acc, us.drop i), ?_, ?_⟩
    · walk_at "go"
      refine ⟨o, _, dx, _, _, rfl, e2, T.clMailbox, T.nMailbox__unread, mF_u _ _ _, ?_⟩
      refine ⟨du, rfl, ⟨_, SqL.of eu2⟩, for_list (K := K) (a := du) (xs := ys) (fun i σ H1 => ∃ (acc : List Int) (v4 : Option V), σ = [some (.ref o), some (.int most), some (.ref p), some (.int (i : Int)), v4] ∧ Same H H1 ∧ H1 p = some (.lst (acc.map V.int)) ∧ (acc.length : Int) ≤ most ∧ rdC most [] us = rdC most acc (us.drop i))
        ⟨[], _, rfl, sp, upd_same, hm0, rfl⟩ (fun i σ H' _ ⟨_, _, _, s, _⟩ => SqL.of (s _ _ eu)) ?_ ?_⟩
      · rintro i x σ H1 hi ⟨acc, v4, rfl, s1, ep, ha, hr⟩
        obtain ⟨m, am, hm1, rfl, sm⟩ := dy.get hi
        have sm1 := (M.sU.trans s1) _ _ sm
        have hml := hu m (List.mem_of_getElem? hm1)
        rw [drop_at hm1, rdC] at hr
        have hi2 : i < us.length := (List.getElem?_eq_some_iff.mp hm1).1
        walk_at "go"
        rw [List.length_map, List.length_map]
        refine iteP (fun h => ?_) (fun h => ?_)
        · rw [if_pos (by omega)] at hr
          exact ⟨i, acc, _, rfl, s1, ep, by omega, by rw [hr, drop_at hm1]⟩
        · rw [if_neg (by omega)] at hr
          refine ⟨_, rfl, .inl ⟨rfl, _, SqL.of ep⟩, ?_⟩
          walk_at "go"
          refine ⟨p, am, _, _, rfl, rfl, ep, sm1, ?_, ?_⟩
          · rw [List.length_map, List.length_map]; exact len_lineW (by omega)
          rw [← List.map_append]
          walk_at "go"
          refine ⟨acc ++ m, some (.ref am), ?_, fun c u e => ?_, upd_same, by rw [List.length_append]; omega, hr⟩
          · rw [Int.natCast_add]; rfl
          · rw [upd_ne (ne_of_none e hp)]; exact s1 _ _ e
      · rintro σ H1 ⟨acc, v4, rfl, s1, ep, ha, hr⟩
        refine ⟨ys.length, acc, v4, rfl, s1, ep, by omega, ?_⟩
        rw [hr, hy, List.drop_length]; rfl
    · rintro σ H1 ⟨i, acc, v4, rfl, s1, ep, hi, hr⟩
      have e3 := s1 _ _ e1
      have eu3 := s1 _ _ eu
      rw [hr] at q
      have hs := rdC_sum most us []
      rw [hr] at hs
      walk_at "go"
      refine ⟨o, _, dx, _, _, rfl, e3, T.clMailbox, T.nMailbox__unread, mF_u _ _ _, ?_⟩
      walk_at "go"
      refine ⟨du, _, i, rfl, rfl, eu3, by omega, ?_⟩
      have o4 : (upd H1 du (.lst (ys.drop i))) o = some (.ins A.CMailbox dx (mF (.ref dq) (.ref du) n)) := by rw [upd_ne M.nou]; exact e3
      walk_at "go"
      refine ⟨o, _, dx, _, _, rfl, o4, T.clMailbox, T.nMailbox__unread_octets, mF_n _ _ _, ?_⟩
      walk_at "go"
      have ep4 : (upd H1 du (.lst (ys.drop i))) p = some (.lst (acc.map V.int)) := by rw [upd_ne npd.symm]; exact ep
      refine ⟨p, _, rfl, .inl (SqL.of ep4), ?_⟩
      rw [List.length_map]
      refine ⟨_, _, rfl, rfl, dx, _, o4, (by show 3 < 1000; decide), ?_⟩
      rw [mF_pn]
      have npo : p ≠ o := (ne_of_none e1 hp).symm
      refine ⟨_, rfl, ?_⟩
      refine q p (upd (upd H1 du (.lst (ys.drop i))) o (.ins A.CMailbox dx (mF (.ref dq) (.ref du) (n - (acc.length : Int))))) (fun c u e h1 h2 => by rw [upd_ne h1, upd_ne h2]; exact s1 _ _ e) hp (by rw [upd_ne npo, upd_ne npd.symm]; exact ep) ⟨same_poke (same_poke (M.sU.trans s1) M.uu) M.uo, M.uo, M.uq, M.uu, M.ne, ⟨dx, upd_same⟩, ?_, ⟨ys.drop i, ?_, ?_⟩⟩
      · rw [upd_ne M.noq.symm, upd_ne M.ne]; exact s1 _ _ M.lq
      · rw [upd_ne M.nou.symm]; exact upd_same
      · exact dy.drop i
/-! ### the law's messages -/
theorem okOcts_octs (n : Int) (c : Nat) : okOcts (octs n c) := fun x hx => by
  unfold octs at hx
  obtain ⟨k, _, rfl⟩ := List.mem_map.mp hx
  omega
def kBody (n : Nat) : List Int := (List.range n).map fun k : Nat => (k : Int) % 251
theorem kBody_ok (n : Nat) : okOcts (kBody n) := fun x hx => by
  obtain ⟨k, _, rfl⟩ := List.mem_map.mp hx
  omega
theorem kBody_len (n : Nat) : (kBody n).length = n := by unfold kBody; rw [List.length_map, List.length_range]
theorem pad_ok {xs : List Int} (h : okOcts xs) : okOcts (pad xs) := fun x hx => by
  unfold pad at hx
  rcases List.mem_append.mp hx with z | z
  · exact h x z
  · rw [List.eq_of_mem_replicate z]; decide
theorem size10 : ∀ j : Nat, j < 10 → ∃ z : Int, ([V.int 0, V.int 4, V.int 240, V.int 244, V.int 248, V.int 252, V.int 504, V.int 4, V.int 8, V.int 12] : List V)[j]? = some (V.int z) ∧ 0 ≤ z ∧ z ≤ 504
  | 0, _ => ⟨_, rfl, by decide, by decide⟩ | 1, _ => ⟨_, rfl, by decide, by decide⟩ | 2, _ => ⟨_, rfl, by decide, by decide⟩ | 3, _ => ⟨_, rfl, by decide, by decide⟩ | 4, _ => ⟨_, rfl, by decide, by decide⟩
  | 5, _ => ⟨_, rfl, by decide, by decide⟩ | 6, _ => ⟨_, rfl, by decide, by decide⟩ | 7, _ => ⟨_, rfl, by decide, by decide⟩ | 8, _ => ⟨_, rfl, by decide, by decide⟩ | 9, _ => ⟨_, rfl, by decide, by decide⟩
  | j + 10, h => absurd h (by omega)
def sp__law_message (K : PySem.W.Frag) : Sp := fun vs H Q _ => ∃ (r : Int), vs = [.int r] ∧ ∀ (p : Addr) (H' : Hp) (xs : List Int), NewL H H' p (xs.map V.int) → okOcts xs → xs.length ≤ 20480 → Q (.ref p) H'
theorem sc__law_message : FnScope ["row", "size", "k"] ["row"] (defScope s__law_message) := ⟨rfl, rfl, rfl, by decide +kernel, rfl, by decide +kernel, by decide +kernel⟩
theorem ok__law_message (T : Txt K mg A) : FnOk P w K mg base CX0 8 A.f_law_message A.d_law_message ["row"] (sp__law_message K) := by
  refine T.F_law_message.ok sc__law_message (fun vs H Q E h => ?_) (fun cdv Ar outer s H vs Q E hr h => ?_)
  · obtain ⟨r, rfl, _⟩ := h
    rfl
  · obtain ⟨r, rfl, q⟩ := h
    refine ⟨_, (pss_cons (ps_set (i := 1) sc__law_message.nd rfl (Or.inl rfl) (pe_ix (r := rIxL K) ix_list (pe_lst (pa_cons pe_int (pa_cons pe_int (pa_cons pe_int (pa_cons pe_int (pa_cons pe_int (pa_cons pe_int (pa_cons pe_int (pa_cons pe_int (pa_cons pe_int (pa_cons pe_int pa_nil))))))))))) (pe_op op_mod (pe_callTy call_int1 (by rfl) T.int (by decide +kernel) (pa_cons (pv 0) pa_nil)) pe_int) (fun _ _ => rfl)))
      (C8.pss_cut (ps_if (pt_cmpR op_eq (pe_op op_mod (pe_callTy call_int1 (by rfl) T.int (by decide +kernel) (pa_cons (pv 0) pa_nil)) pe_int) pe_int (nomark _))
      (pss_one (ps_set (i := 1) sc__law_message.nd rfl (Or.inl rfl) (pe_op op_mul pe_int (pe_op op_mod (pe_callTy call_int1 (by rfl) T.int (by decide +kernel) (pa_cons (pe_op op_fdiv (pv 0) pe_int) pa_nil)) pe_int))))
      pss_nil)
      (pss_one (ps_ret (pe_call (ok_encode_message T) (hr.mono (by decide)) rfl T.gencode_message T.kencode_message T.bencode_message .nil passL (pa_cons (pe_op op_add (pe_op op_mod (pe_callTy call_int1 (by rfl) T.int (by decide +kernel) (pa_cons (pe_op op_fdiv (pv 0) pe_int) pa_nil)) pe_int) pe_int) (pa_cons (pe_op op_mod (pe_callTy call_int1 (by rfl) T.int (by decide +kernel) (pa_cons (pe_op op_fdiv (pv 0) pe_int) pa_nil)) pe_int) (pa_cons (pe_lst (pa_cons (pe_tup (pa_cons pe_str (pa_cons (pe_lc (own := [("k", 2)]) (g := (gName 2)) (tt := tYes) rfl sc__law_message.nd (pi_range1 (by rfl) T.range (pa_cons (pe_callB (call_min2 rfl) (by rfl) T.min (by decide +kernel) (pa_cons (pv 1) (pa_cons pe_int pa_nil))) pa_nil)) (blkOk_by (own := [("k", 2)]) (N := ["row", "size", "k"]) (sc := defScope s__law_message) (by decide +kernel)) (fun _ _ _ _ _ => (pg_name (i := 2) sc__law_message.nd rfl (Or.inl rfl))) (fun _ _ _ _ _ => pts_nil) (fun _ _ _ _ _ => by exact (pe_op op_mod (pv 2) pe_int))) pa_nil))) pa_nil)) pa_nil)))))))), ?_⟩
    walk_at "go"
    rename_i p0 h0
    obtain ⟨z, hz, z0, z1⟩ := size10 (r % 10).toNat (by omega)
    refine ⟨p0, _, _, .int z, rfl, rfl, SqL.of upd_same, at_of (j := (r % 10).toNat) (by omega) hz, ?_⟩
    have s0 := same_upd (o := .lst [V.int 0, V.int 4, V.int 240, V.int 244, V.int 248, V.int 252, V.int 504, V.int 4, V.int 8, V.int 12]) h0
    generalize upd H p0 (.lst [V.int 0, V.int 4, V.int 240, V.int 244, V.int 248, V.int 252, V.int 504, V.int 4, V.int 8, V.int 12]) = H1 at s0 ⊢
    refine ⟨fun σ H' => ∃ sz : Nat, σ = [some (.int r), some (.int (sz : Int)), none] ∧ H' = H1 ∧ sz ≤ 20000, ?_, ?_⟩
    · walk_at "gx"
      refine iteEq (fun h => ?_) (fun h => ?_)
      · walk_at "gx"
        refine ⟨(4 * (r / 40 % 5000)).toNat, ?_, rfl, by omega⟩
        rw [show (((4 * (r / 40 % 5000)).toNat : Nat) : Int) = 4 * (r / 40 % 5000) by omega]; rfl
      · refine ⟨z.toNat, ?_, rfl, by omega⟩
        rw [show ((z.toNat : Nat) : Int) = z by omega]; rfl
    · rintro σ H' ⟨sz, rfl, rfl, hsz⟩
      walk_at "gx"
      have hc : (if (16384 : Int) < (sz : Int) then (16384 : Int) else (sz : Int)) = ((min sz 16384 : Nat) : Int) := by split <;> omega
      rw [hc]
      have hc2 : min sz 16384 ≤ 16384 := Nat.min_le_right _ _
      generalize min sz 16384 = c at hc2 ⊢
      refine ⟨by omega, by omega, fun D hD => ?_⟩
      rw [Int.toNat_natCast]
      refine lc_dp (walk_range (lo := 0) (n := c)) (K := K) (V0 := H') (H0 := H') (fun k => some (PyData.int ((k : Int) % 251))) [some (.int r), some (.int (sz : Int)), none] rfl (Same.refl _) hD (by omega) (fun _ _ => trivial) (fun i x H H' y => y.1) ?_ ?_
      · rintro i x U H2 hi xx ⟨_, rfl⟩ Qy Qn hy _
        refine ⟨rfl, _, rfl, ?_⟩
        walk_at "gx"
        rw [Int.zero_add]
        exact hy _ _ _ _ rfl (Ext.refl xx.vh) (.int _)
      · rintro U H2 ys xx hDU dl _
        have e0 : fm (fun k : Nat => some (PyData.int ((k : Int) % 251))) c = (kBody c).map PyData.int := by
          rw [fm_some]; unfold kBody; rw [List.map_map]; rfl
        rw [e0] at dl
        have e := dp_intsV dl
        subst e
        have hb := kBody_ok c
        have hbl := kBody_len c
        generalize kBody c = body at hb hbl dl hDU
        have hDH := xx.vh _ _ hDU
        walk_at "gx"
        rename_i p1 h1 p2 h2
        have s1 := same_upd (o := .tup [V.str (Str.ofString "octets"), V.ref D]) h1
        have s2 := same_upd (o := .lst [V.ref p1]) h2
        have hD3 := s2 _ _ (s1 _ _ hDH)
        have e1 := s2 _ _ (upd_same : (upd H2 p1 (.tup [V.str (Str.ofString "octets"), V.ref D])) p1 = _)
        have e2 : (upd (upd H2 p1 (.tup [V.str (Str.ofString "octets"), V.ref D])) p2 (.lst [V.ref p1])) p2 = some (.lst [V.ref p1]) := upd_same
        have sH := xx.hh.trans (s1.trans s2)
        generalize upd (upd H2 p1 (.tup [V.str (Str.ofString "octets"), V.ref D])) p2 (.lst [V.ref p1]) = H3 at hD3 e1 e2 sH ⊢
        have hok : octsOk body = true := by
          unfold octsOk
          rw [decide_eq_true (show body.length ≤ 16384 by omega), Bool.true_and, List.all_eq_true]
          exact fun x hx => decide_eq_true (hb x hx)
        have hpl : (pad (octs body.length 4 ++ body)).length ≤ 16400 := by
          rw [pad_len, List.length_append, octs_len]
          have := padN_lt ((octs body.length 4 ++ body).length)
          rw [List.length_append, octs_len] at this
          omega
        have hbo : bodyOf [⟨"octets", .oct body, pad (octs body.length 4 ++ body)⟩] = pad (octs body.length 4 ++ body) := by
          unfold bodyOf
          rw [List.flatMap_cons, List.flatMap_nil, List.append_nil]
        refine ⟨r / 10 % 999 + 1, r / 7 % 9, p2, [⟨"octets", .oct body, pad (octs body.length 4 ++ body)⟩], rfl, ⟨⟨[.ref p1], SqL.of e2, rfl, fun i x hx => ?_⟩, fun g hg => ?_⟩, by rw [hbo]; omega, by show 1 < 60000; decide, fun z => ?_, fun _ z => ?_, fun _ _ p H4 n4 => ?_⟩
        · cases i with
          | zero => cases hx; exact ⟨_, p1, _, rfl, rfl, SqT.of e1, D, rfl, hD3, by omega⟩
          | succ i => cases hx
        · rw [List.mem_singleton.mp hg]
          have := @ArgSpec.oct body
          rw [hok] at this
          exact this
        · exfalso
          unfold encBad at z
          rcases z with z | z | z
          · omega
          · omega
          · exact absurd z (by show ¬ 20 < 1; decide)
        · exfalso
          unfold encLong at z
          rw [hbo] at z
          omega
        · refine q p H4 _ ⟨s0.free (sH.free n4.new), s0.trans (sH.trans n4.same), n4.at_⟩ ?_ ?_
          · rw [hbo]
            unfold msgOcts
            exact okO_app (okO_app (okO_app (okOcts_octs _ _) (okOcts_octs _ _)) (okOcts_octs _ _)) (pad_ok (okO_app (okOcts_octs _ _) hb))
          · rw [hbo]
            unfold msgOcts
            rw [List.length_append, List.length_append, List.length_append, octs_len, octs_len, octs_len]
            omega
def sp__law_stream (K : PySem.W.Frag) : Sp := fun vs H Q _ => ∃ (a : Addr) (ns : List Int), vs = [.ref a] ∧ SqL K H a (ns.map V.int) ∧ ∀ (p : Addr) (H' : Hp) (xs : List Int), NewL H H' p (xs.map V.int) → okOcts xs → xs.length ≤ 600000 → Q (.ref p) H'
theorem sc__law_stream : FnScope ["script", "octets", "k"] ["script"] (defScope s__law_stream) := ⟨rfl, rfl, rfl, by decide +kernel, rfl, by decide +kernel, by decide +kernel⟩
theorem ok__law_stream (T : Txt K mg A) : FnOk P w K mg base CX0 9 A.f_law_stream A.d_law_stream ["script"] (sp__law_stream K) := by
  refine T.F_law_stream.ok sc__law_stream (fun vs H Q E h => ?_) (fun cdv Ar outer s H vs Q E hr h => ?_)
  · obtain ⟨a, ns, rfl, _⟩ := h
    rfl
  · obtain ⟨a, ns, rfl, hS, q⟩ := h
    refine ⟨_, (pss_cons (ps_set (i := 1) sc__law_stream.nd rfl (Or.inl rfl) (pe_lst pa_nil))
      (pss_cons (ps_for PassesOwn.never rfl (pi_range1 (by rfl) T.range (pa_cons pe_int pa_nil)) (pg_name (i := 2) sc__law_stream.nd rfl (Or.inl rfl))
      (pss_cons (ps_set (i := 1) sc__law_stream.nd rfl (Or.inl rfl) (pe_op op_cat (pv 1) (pe_call (ok__law_message T) (hr.mono (by decide)) rfl T.g_law_message T.k_law_message T.b_law_message .nil pass0 (pa_cons (pe_call (ok__law_row T) (hr.mono (by decide)) rfl T.g_law_row T.k_law_row T.b_law_row .nil pass0 (pa_cons (pv 0) (pa_cons (pe_op op_add pe_int (pv 2)) pa_nil))) pa_nil))))
      (pss_one (ps_if (PW.pt (pw_and (pt_cmpR op_eq (pe_op op_mod (pe_callTy call_int1 (by rfl) T.int (by decide +kernel) (pa_cons (pe_call (ok__law_row T) (hr.mono (by decide)) rfl T.g_law_row T.k_law_row T.b_law_row .nil pass0 (pa_cons (pv 0) (pa_cons pe_int pa_nil))) pa_nil)) pe_int) pe_int (nomark _)) (pw_and1 (pt_cmpR op_eq (pe_op op_mod (pe_callTy call_int1 (by rfl) T.int (by decide +kernel) (pa_cons (pe_call (ok__law_row T) (hr.mono (by decide)) rfl T.g_law_row T.k_law_row T.b_law_row .nil pass0 (pa_cons (pv 0) (pa_cons pe_int pa_nil))) pa_nil)) pe_int) (pv 2) (nomark _)))))
      (pss_one (ps_set (i := 1) sc__law_stream.nd rfl (Or.inl rfl) (pe_op op_cat (pv 1) (pe_lst (pa_cons pe_int (pa_cons pe_int (pa_cons pe_int (pa_cons pe_int (pa_cons pe_int (pa_cons pe_int (pa_cons pe_int (pa_cons pe_int pa_nil))))))))))))
      pss_nil))))
      (pss_one (ps_ret (pv 1))))), ?_⟩
    refine ⟨by decide, fun p0 hp0 => ?_⟩
    refine ⟨_, rfl, by decide, by decide, for_range (lo := 0) (n := (24 : Int).toNat) (fun i σ H' => ∃ (p : Addr) (xs : List Int) (v : Option V), σ = [some (.ref a), some (.ref p), v] ∧ Same H H' ∧ H p = none ∧ H' p = some (.lst (xs.map V.int)) ∧ okOcts xs ∧ xs.length ≤ 20488 * i)
      ⟨p0, [], none, rfl, same_upd hp0, hp0, upd_same, (fun x hx => by cases hx), Nat.zero_le _⟩ ?_ ?_⟩
    · rintro i σ H1 hi ⟨p, xs, v, rfl, hs, hn, he, ho, hl⟩
      have hi' : i < 24 := hi
      walk_at "go"
      refine ⟨a, ns, 60 + i, ?_, hs.seq hS, ?_⟩
      · show [V.ref a, V.int (60 + (0 + (i : Int)))] = [V.ref a, V.int ((60 + i : Nat) : Int)]
        rw [Int.natCast_add, Int.zero_add]; rfl
      generalize lawRow ns (60 + i) = row
      walk_at "go"
      intro p1 H2 ys n1 hy hyl
      refine ⟨p, p1, _, _, rfl, rfl, n1.same _ _ he, n1.at_, ?_, fun p2 h2 => ?_⟩
      · rw [List.length_map, List.length_map]; exact len_lineW (by omega)
      rw [← List.map_append]
      have s2 := n1.same.trans (same_upd (o := .lst ((xs ++ ys).map V.int)) h2)
      have e2 : (upd H2 p2 (.lst ((xs ++ ys).map V.int))) p2 = some (.lst ((xs ++ ys).map V.int)) := upd_same
      have f2 : H p2 = none := hs.free (n1.same.free h2)
      have o2 := okO_app ho hy
      have l2 : (xs ++ ys).length ≤ 20488 * i + 20480 := by rw [List.length_append]; omega
      generalize upd H2 p2 (.lst ((xs ++ ys).map V.int)) = H3 at s2 e2 ⊢
      have hs3 := hs.trans s2
      walk_at "go"
      refine ⟨a, ns, 59, rfl, hs3.seq hS, ?_⟩
      generalize lawRow ns 59 = row
      walk_at "gx"
      refine iteEq (fun h => ?_) (fun h => ?_)
      · walk_at "go"
        refine ⟨a, ns, 58, rfl, hs3.seq hS, ?_⟩
        generalize lawRow ns 58 = row
        walk_at "gx"
        refine iteEq (fun h => ?_) (fun h => ?_)
        · walk_at "go"
          rename_i p4 h4
          refine ⟨p2, p4, _, _, rfl, rfl, (same_upd h4) _ _ e2, upd_same, ?_, fun p5 h5 => ?_⟩
          · rw [List.length_map]; exact len_lineW (by show _ + 8 ≤ _; omega)
          refine ⟨p5, (xs ++ ys) ++ [1, 0, 0, 0, 0, 0, 6, 0], _, rfl, hs3.trans ((same_upd h4).trans (same_upd h5)), hs3.free ((same_upd h4).free h5), ?_, okO_app o2 (fun x hx => ?_), ?_⟩
          · rw [List.map_append (l₁ := xs ++ ys)]; exact upd_same
          · simp only [List.mem_cons, List.not_mem_nil, or_false] at hx
            omega
          · rw [List.length_append (as := xs ++ ys)]; show _ + 8 ≤ _; omega
        · exact ⟨p2, xs ++ ys, _, rfl, hs3, f2, e2, o2, by omega⟩
      · exact ⟨p2, xs ++ ys, _, rfl, hs3, f2, e2, o2, by omega⟩
    · rintro σ H1 ⟨p, xs, v, rfl, hs, hn, he, ho, hl⟩
      refine ⟨_, rfl, q p H1 xs ⟨hn, hs, he⟩ ho (Nat.le_trans hl (by decide))⟩
/-! ### the law's questions -/
theorem msg_body_len {xs : List Int} (h : has1 xs = true) : ((msgAt xs 0 (numAt xs 6 2)).2.2.length : Int) = numAt xs 6 2 - 8 := by
  obtain ⟨h1, h2, h3, h4, h5⟩ := has1_cut h
  show (((xs.drop (0 + 8)).take ((numAt xs 6 2).toNat - 8)).length : Int) = _
  rw [List.length_take, List.length_drop]
  omega
theorem dp_msg {K : PySem.W.Frag} {H : Hp} {v : V} {m : Msg} (h : Dp K H v (msgD m)) : ∃ t b, v = .ref t ∧ SqT K H t [.int m.1, .int m.2.1, .ref b] ∧ SqL K H b (m.2.2.map V.int) := by
  obtain ⟨t, xs, rfl, st, d⟩ := dp_tuple h
  cases d with
  | cons d1 d => cases d with
    | cons d2 d => cases d with
      | cons d3 d => cases d with
        | nil =>
          have e1 := dp_int d1
          have e2 := dp_int d2
          obtain ⟨b, ys, rfl, _, _⟩ := dp_list d3
          subst e1
          subst e2
          exact ⟨t, b, rfl, st, dp_intsL d3⟩
def sp__law_cost (K : PySem.W.Frag) : Sp := fun vs H Q _ => ∃ (v : V) (m : Msg), vs = [v] ∧ Dp K H v (msgD m) ∧ Q (.int (1 + (8 + (m.2.2.length : Int) + 255) / 256)) H
theorem sc__law_cost : FnScope ["message"] ["message"] (defScope s__law_cost) := ⟨rfl, rfl, rfl, by decide +kernel, rfl, by decide +kernel, by decide +kernel⟩
theorem ok__law_cost (T : Txt K mg A) : FnOk P w K mg base CX0 1 A.f_law_cost A.d_law_cost ["message"] (sp__law_cost K) := by
  refine T.F_law_cost.ok sc__law_cost (fun vs H Q E h => ?_) (fun cdv Ar outer s H vs Q E hr h => ?_)
  · obtain ⟨v, m, rfl, _⟩ := h
    rfl
  · obtain ⟨v, m, rfl, dm, q⟩ := h
    obtain ⟨t, b, rfl, st, sb⟩ := dp_msg dm
    refine ⟨_, (pss_one (ps_ret (pe_op op_add pe_int (pe_op op_fdiv (pe_op op_add (pe_op op_add pe_int (pe_callB call_len_seq (by rfl) T.len PySem.boot_len (pa_cons (pe_ix (r := rIxT K) ix_tup (pv 0) pe_int (fun _ _ => rfl)) pa_nil))) pe_int) pe_int)))), ?_⟩
    walk_at "go"
    rw [List.length_map]
    exact q
def sp__law_front_good (C : Addr) (K : PySem.W.Frag) : Sp := fun vs H Q _ => ∃ (o dq du b : Addr) (qs : List Int) (us : List (List Int)) (n : Int) (U : Hp), vs = [.ref o, .ref b] ∧ MbAt C K U H o dq du qs us n ∧ H b = some (.lst (qs.map V.int)) ∧ okOcts qs ∧ qs.length < 80000 ∧
  ∀ U' H', Ext U H U' H' → Q (.bl true) H'
theorem sc__law_front_good : FnScope ["mail", "octets", "told"] ["mail", "octets"] (defScope s__law_front_good) := ⟨rfl, rfl, rfl, by decide +kernel, rfl, by decide +kernel, by decide +kernel⟩
theorem ok__law_front_good (T : Txt K mg A) : FnOk P w K mg base CX0 4 A.f_law_front_good A.d_law_front_good ["mail", "octets"] (sp__law_front_good A.CMailbox K) := by
  refine T.F_law_front_good.ok sc__law_front_good (fun vs H Q E h => ?_) (fun cdv Ar outer s H vs Q E hr h => ?_)
  · obtain ⟨_, _, _, _, _, _, _, _, rfl, _⟩ := h
    rfl
  · obtain ⟨o, dq, du, b, qs, us, n, U, rfl, M, hb, ho, hl, q⟩ := h
    refine ⟨_, (pss_cons (ps_set (i := 2) sc__law_front_good.nd rfl (Or.inl rfl) (pe_call (ok_cut_messages T) (hr.mono (by decide)) rfl T.gcut_messages T.kcut_messages T.bcut_messages .nil pass0 (pa_cons (pv 1) pa_nil)))
      (pss_cons (ps_if (pt_cmpR op_eq (pe_callB call_len_seq (by rfl) T.len PySem.boot_len (pa_cons (pe_ix (r := rIxT K) ix_tup (pv 2) pe_int (fun _ _ => rfl)) pa_nil)) pe_int (nomark _))
      (pss_one (ps_ret (pe_and (pe_cmpR op_isN (pe_meth0 (pv 0) T.clMailbox T.mMailbox_cost (ok_Mailbox_cost T) (hr.mono (by decide)) T.bMailbox_cost .nil pass0) pe_non (nomark _)) (pe_one (pe_cmpR op_eq (pe_meth0 (pv 0) T.clMailbox T.mMailbox_is_bad (ok_Mailbox_is_bad T) (hr.mono (by decide)) T.bMailbox_is_bad .nil pass0) (pe_ix (r := rIxT K) ix_tup (pv 2) pe_int (fun _ _ => rfl)) (nomark _))))))
      pss_nil)
      (pss_one (ps_ret (pe_and (pe_cmpR (op_eqD hr.units) (pe_meth0 (pv 0) T.clMailbox T.mMailbox_cost (ok_Mailbox_cost T) (hr.mono (by decide)) T.bMailbox_cost .nil pass0) (pe_call (ok__law_cost T) (hr.mono (by decide)) rfl T.g_law_cost T.k_law_cost T.b_law_cost .nil pass0 (pa_cons (pe_ix (r := rIxL K) ix_list (pe_ix (r := rIxT K) ix_tup (pv 2) pe_int (fun _ _ => rfl)) pe_int (fun _ _ => rfl)) pa_nil)) (nomark _)) (pe_one (pe_cmpR op_is_bl (pe_meth0 (pv 0) T.clMailbox T.mMailbox_is_bad (ok_Mailbox_is_bad T) (hr.mono (by decide)) T.bMailbox_is_bad .nil pass0) pe_bl (nomark _)))))))), ?_⟩
    walk_at "go"
    refine ⟨b, qs, U, rfl, M.sU, SqL.of hb, ho, hl, fun t m r U1 H1 x1 t1 d1 dm e1 => ?_⟩
    have M1 := M.ext x1
    obtain ⟨dx1, o1⟩ := M1.ob
    obtain ⟨am, xm, hm1, sm, dam⟩ := dp_list dm
    obtain rfl : m = am := by cases hm1; rfl
    have st := SqT.of (K := K) (x1.vh _ _ t1)
    have sm1 := x1.vh.seq sm
    have hlen := dpall_len dam
    rw [List.length_map] at hlen
    walk_at "go"
    rw [hlen]
    have hlook : ∀ {f : Str}, (f == ("_queue" : Str)) = false → (f == ("_unread" : Str)) = false → (f == ("_unread_octets" : Str)) = false → (mF (.ref dq) (.ref du) n).lookup f = none := fun h1 h2 h3 => mF_no _ _ _ h1 h2 h3
    walk_at "go"
    cases hh : has1 qs with
    | false =>
      obtain ⟨c1, c2⟩ := cutR_no1 hh
      rw [c1] at hlen ⊢
      refine iteEq (fun h => ?_) (fun h => absurd rfl h)
      walk_at "go"
      refine ⟨o, dx1, _, rfl, o1, hlook (by decide +kernel) (by decide +kernel) (by decide +kernel), ?_⟩
      refine ⟨o, dq, du, qs, us, n, U1, rfl, M1, ho, fun H2 s2 => ?_⟩
      have M2 := M1.same s2
      obtain ⟨dx2, o2⟩ := M2.ob
      unfold costV
      rw [hh]
      walk_at "go"
      refine ⟨o, dx2, _, rfl, o2, hlook (by decide +kernel) (by decide +kernel) (by decide +kernel), ?_⟩
      refine ⟨o, dq, du, qs, us, n, U1, rfl, M2, ho, fun H3 s3 => ?_⟩
      have x3 : Ext U H U1 H3 := ⟨x1.vv, (x1.vh.trans s2).trans s3, (x1.hh.trans s2).trans s3, x1.nw⟩
      have st3 := s3.sqt (s2.sqt st)
      walk_at "go"
      rw [c2]
      have qq := q U1 H3 x3
      rw [decide_eq_true rfl]
      exact qq
    | true =>
      obtain ⟨r, hr1⟩ := cutR_has1 hh
      have hbl := msg_body_len hh
      obtain ⟨h1, h2, h3, h4, h5⟩ := has1_cut hh
      have c1 : (cutR qs).1 = msgAt qs 0 (numAt qs 6 2) :: r := by rw [hr1]
      rw [c1] at dam hlen ⊢
      refine iteEq (fun h => absurd h ?_) (fun h => ?_)
      · rw [List.length_cons]; omega
      obtain ⟨v, hv, dv⟩ := dpall_get' (i := 0) dam rfl
      walk_at "go"
      refine ⟨o, dx1, _, rfl, o1, hlook (by decide +kernel) (by decide +kernel) (by decide +kernel), ?_⟩
      refine ⟨o, dq, du, qs, us, n, U1, rfl, M1, ho, fun H2 s2 => ?_⟩
      have M2 := M1.same s2
      obtain ⟨dx2, o2⟩ := M2.ob
      have st2 := s2.sqt st
      have sm2 := s2.seq sm1
      unfold costV
      rw [hh]
      walk_at "go"
      refine ⟨m, _, _, v, rfl, rfl, sm2, at_of (j := 0) (by decide) hv, ?_⟩
      refine ⟨v, _, rfl, (dv.to x1.vh).to s2, ?_⟩
      rw [hbl, show 1 + (8 + (numAt qs 6 2 - 8) + 255) / 256 = 1 + (numAt qs 6 2 + 256 - 1) / 256 from by congr 2; omega]
      refine t_eq (.int _) (.int _) (sh_int _).shaped (sh_int _).shaped ?_
      rw [(sh_int _).self]
      walk_at "go"
      refine ⟨o, dx2, _, rfl, o2, hlook (by decide +kernel) (by decide +kernel) (by decide +kernel), ?_⟩
      refine ⟨o, dq, du, qs, us, n, U1, rfl, M2, ho, fun H3 s3 => ?_⟩
      have x3 : Ext U H U1 H3 := ⟨x1.vv, (x1.vh.trans s2).trans s3, (x1.hh.trans s2).trans s3, x1.nw⟩
      walk_at "go"
      have qq := q U1 H3 x3
      unfold badB
      rw [h4]
      simp only [Bool.not_true, Bool.and_false, decide_true]
      exact qq
/-! ### the law's taking and reading -/
theorem grow_of_ext {U H U' H' : Hp} (x : Ext U H U' H') : Grow U H U' H' := x.grow
def sp__law_take (C : Addr) (K : PySem.W.Frag) : Sp := fun vs H Q _ => ∃ (o dq du b : Addr) (qs : List Int) (us : List (List Int)) (n : Int) (U : Hp), vs = [.ref o, .ref b] ∧ MbAt C K U H o dq du qs us n ∧ U b = some (.lst (qs.map V.int)) ∧ okOcts qs ∧ qs.length < 80000 ∧
  ∀ p U' H' qs', Grow U H U' H' → (∀ c u, H c = some u → c ≠ dq → H' c = some u) → MbAt C K U' H' o dq du qs' us n → U' p = some (.lst (qs'.map V.int)) → (∃ k, qs' = qs.drop k) → Q (.ref p) H'
theorem sc__law_take : FnScope ["mail", "queue", "told"] ["mail", "queue"] (defScope s__law_take) := ⟨rfl, rfl, rfl, by decide +kernel, rfl, by decide +kernel, by decide +kernel⟩
theorem ok__law_take (T : Txt K mg A) : FnOk P w K mg base CX0 5 A.f_law_take A.d_law_take ["mail", "queue"] (sp__law_take A.CMailbox K) := by
  refine T.F_law_take.ok sc__law_take (fun vs H Q E h => ?_) (fun cdv Ar outer s H vs Q E hr h => ?_)
  · obtain ⟨_, _, _, _, _, _, _, _, rfl, _⟩ := h
    rfl
  · obtain ⟨o, dq, du, b, qs, us, n, U, rfl, M, hb, ho, hl, q⟩ := h
    refine ⟨_, (pss_cons (ps_set (i := 2) sc__law_take.nd rfl (Or.inl rfl) (pe_ix (r := rIxT K) ix_tup (pe_call (ok_cut_messages T) (hr.mono (by decide)) rfl T.gcut_messages T.kcut_messages T.bcut_messages .nil pass0 (pa_cons (pv 1) pa_nil)) pe_int (fun _ _ => rfl)))
      (pss_cons (ps_if (pt_cmpR op_eq (pe_callB call_len_seq (by rfl) T.len PySem.boot_len (pa_cons (pv 2) pa_nil)) pe_int (nomark _))
      (pss_one (ps_ret (pv 1)))
      pss_nil)
      (pss_cons (ps_if (pt_cmpR (op_neD hr.units) (pe_meth0 (pv 0) T.clMailbox T.mMailbox_take (ok_Mailbox_take T) (hr.mono (by decide)) T.bMailbox_take .nil pass0) (pe_ix (r := rIxL K) ix_list (pv 2) pe_int (fun _ _ => rfl)) (nomark _))
      (pss_one (ps_ret pe_non))
      pss_nil)
      (pss_one (ps_ret (pe_slice (r := rSlL K) sl_list (pv 1) (po_some (pe_op op_add pe_int (pe_callB call_len_seq (by rfl) T.len PySem.boot_len (pa_cons (pe_ix (r := rIxT K) ix_tup (pe_ix (r := rIxL K) ix_list (pv 2) pe_int (fun _ _ => rfl)) pe_int (fun _ _ => rfl)) pa_nil)))) po_none)))))), ?_⟩
    walk_at "go"
    refine ⟨b, qs, U, rfl, M.sU, SqL.of (M.sU _ _ hb), ho, hl, fun t m r U1 H1 x1 t1 d1 dm e1 => ?_⟩
    have M1 := M.ext x1
    obtain ⟨dx1, o1⟩ := M1.ob
    obtain ⟨am, xm, hm1, sm, dam⟩ := dp_list dm
    obtain rfl : m = am := by cases hm1; rfl
    have st := SqT.of (K := K) (x1.vh _ _ t1)
    have sm1 := x1.vh.seq sm
    have hlen := dpall_len dam
    rw [List.length_map] at hlen
    have hb1 := x1.vv _ _ hb
    walk_at "go"
    rw [hlen]
    cases hh : has1 qs with
    | false =>
      obtain ⟨c1, c2⟩ := cutR_no1 hh
      rw [c1] at hlen ⊢
      refine iteEq (fun h => ?_) (fun h => absurd rfl h)
      walk_at "go"
      exact q b U1 H1 qs x1.grow (fun c u e _ => x1.hh _ _ e) M1 hb1 ⟨0, rfl⟩
    | true =>
      obtain ⟨rr, hr1⟩ := cutR_has1 hh
      have hbl := msg_body_len hh
      obtain ⟨h1, h2, h3, h4, h5⟩ := has1_cut hh
      have c1 : (cutR qs).1 = msgAt qs 0 (numAt qs 6 2) :: rr := by rw [hr1]
      rw [c1] at dam hlen ⊢
      refine iteEq (fun h => absurd h ?_) (fun h => ?_)
      · rw [List.length_cons]; omega
      obtain ⟨v, hv, dv⟩ := dpall_get' (i := 0) dam rfl
      walk_at "go"
      refine ⟨o, dx1, _, rfl, o1, mF_no _ _ _ (by decide +kernel) (by decide +kernel) (by decide +kernel), ?_⟩
      refine ⟨o, dq, du, qs, us, n, U1, rfl, M1, ho, hh, fun v2 U2 H2 g2 b2 M2 dv2 => ?_⟩
      have sm2 := M2.sU.seq (g2.vv.seq sm)
      have dvm := (dv.to g2.vv).to M2.sU
      walk_at "go"
      refine ⟨m, _, _, v, rfl, rfl, sm2, at_of (j := 0) (by decide) hv, ?_⟩
      refine t_ne (dv2.to M2.sU) dvm (sh_msg _).shaped (sh_msg _).shaped ⟨_, rfl, ne_self (sh_msg _).shaped rfl ?_⟩
      obtain ⟨tv, bv, rfl, stv, sbv⟩ := dp_msg dvm
      have hb2 := M2.sU _ _ (g2.vv _ _ hb1)
      walk_at "go"
      refine ⟨m, _, _, _, rfl, rfl, sm2, at_of (j := 0) (by decide) hv, ?_⟩
      walk_at "go"
      rw [List.length_map, hbl, show (8 : Int) + (numAt qs 6 2 - 8) = ((numAt qs 6 2).toNat : Int) by omega]
      refine ⟨b, _, rfl, SqL.of hb2, fun p hp => ?_⟩
      rw [cutV_from (by rw [List.length_map]; exact h2), ← List.map_drop]
      have x3 := Ext.new (o := .lst ((qs.drop (numAt qs 6 2).toNat).map V.int)) M2.sU hp
      have g3 : Grow U H (upd U2 p (.lst ((qs.drop (numAt qs 6 2).toNat).map V.int))) (upd H2 p (.lst ((qs.drop (numAt qs 6 2).toNat).map V.int))) :=
        (x1.grow.trans g2 (none_same x1.hh)).trans x3.grow (fun c e => none_same x1.hh c (by
          cases e1 : H1 c with
          | none => rfl
          | some u =>
            by_cases cc : c = dq
            · subst cc; rw [M2.lq] at e; cases e
            · rw [b2 c u e1 cc] at e; cases e))
      exact q p _ _ _ g3 (fun c u e hc => x3.hh _ _ (b2 c u (x1.hh _ _ e) hc)) (M2.ext x3) upd_same ⟨_, rfl⟩
def sp__law_read (C : Addr) (K : PySem.W.Frag) : Sp := fun vs H Q _ => ∃ (o dq du un : Addr) (qs : List Int) (us : List (List Int)) (zs : List V) (n most : Int) (U : Hp), vs = [.ref o, .ref un, .int most] ∧ MbAt C K U H o dq du qs us n ∧ H un = some (.lst zs) ∧ LLs U zs us ∧ un ≠ du ∧ (∀ u ∈ us, u.length ≤ 100000) ∧ us.length ≤ 90000 ∧ 0 ≤ most ∧ most ≤ 20000 ∧
  ∀ r H' i, (∀ c u, H c = some u → c ≠ o → c ≠ du → H' c = some u) → H r = none → H' r = some (.lst (zs.drop i)) → (rdC most [] us).2 = us.drop i → MbAt C K U H' o dq du qs (rdC most [] us).2 (n - (rdC most [] us).1.length) → Q (.ref r) H'
theorem sc__law_read : FnScope ["mail", "unread", "most", "due", "count"] ["mail", "unread", "most"] (defScope s__law_read) := ⟨rfl, rfl, rfl, by decide +kernel, rfl, by decide +kernel, by decide +kernel⟩
theorem ok__law_read (T : Txt K mg A) : FnOk P w K mg base CX0 2 A.f_law_read A.d_law_read ["mail", "unread", "most"] (sp__law_read A.CMailbox K) := by
  refine T.F_law_read.ok sc__law_read (fun vs H Q E h => ?_) (fun cdv Ar outer s H vs Q E hr h => ?_)
  · obtain ⟨_, _, _, _, _, _, _, _, _, _, rfl, _⟩ := h
    rfl
  · obtain ⟨o, dq, du, un, qs, us, zs, n, most, U, rfl, M, hun, hz, hne, hu, hl, hm0, hm, q⟩ := h
    refine ⟨_, (pss_cons (ps_set (i := 3) sc__law_read.nd rfl (Or.inl rfl) (pe_lst pa_nil))
      (pss_cons (ps_set (i := 4) sc__law_read.nd rfl (Or.inl rfl) pe_int)
      (C8.pss_cut (ps_while PassesOwn.never (PW.pt (pw_and (pt_cmpR op_lt (pv 4) (pe_callB call_len_seq (by rfl) T.len PySem.boot_len (pa_cons (pv 1) pa_nil)) (nomark _)) (pw_and1 (pt_cmpR op_le (pe_op op_add (pe_callB call_len_seq (by rfl) T.len PySem.boot_len (pa_cons (pv 3) pa_nil)) (pe_callB call_len_seq (by rfl) T.len PySem.boot_len (pa_cons (pe_ix (r := rIxL K) ix_list (pv 1) (pv 4) (fun _ _ => rfl)) pa_nil))) (pv 2) (nomark _)))))
      (pss_cons (ps_set (i := 3) sc__law_read.nd rfl (Or.inl rfl) (pe_op op_cat (pv 3) (pe_ix (r := rIxL K) ix_list (pv 1) (pv 4) (fun _ _ => rfl))))
      (pss_one (ps_set (i := 4) sc__law_read.nd rfl (Or.inl rfl) (pe_op op_add (pv 4) pe_int)))))
      (pss_cons (ps_if (pt_cmpR (op_neD hr.units) (pe_meth (pv 0) T.clMailbox T.mMailbox_read (ok_Mailbox_read T) (hr.mono (by decide)) T.bMailbox_read .nil pass0 (pa_cons (pv 2) pa_nil)) (pv 3) (nomark _))
      (pss_one (ps_ret pe_non))
      pss_nil)
      (pss_one (ps_ret (pe_slice (r := rSlL K) sl_list (pv 1) (po_some (pv 4)) po_none))))))), ?_⟩
    have hzl := hz.len
    refine ⟨by decide, fun p hp => ?_⟩
    walk_at "go"
    refine ⟨fun σ H1 => ∃ (i : Nat) (acc : List Int) (p : Addr), σ = [some (.ref o), some (.ref un), some (.int most), some (.ref p), some (.int (i : Int))] ∧ Same H H1 ∧ H p = none ∧ H1 p = some (.lst (acc.map V.int)) ∧ i ≤ us.length ∧ rdC most [] us = (acc, us.drop i), ?_, ?_⟩
    · refine ⟨fun f σ H1 => ∃ (i : Nat) (acc : List Int) (p : Addr), σ = [some (.ref o), some (.ref un), some (.int most), some (.ref p), some (.int (i : Int))] ∧ Same H H1 ∧ H p = none ∧ H1 p = some (.lst (acc.map V.int)) ∧ i + f = us.length ∧ (acc.length : Int) ≤ most ∧ rdC most [] us = rdC most acc (us.drop i),
        ⟨us.length, 0, [], p, rfl, same_upd hp, hp, upd_same, by omega, hm0, rfl⟩, ?_⟩
      rintro f σ H1 ⟨i, acc, p, rfl, s1, pn, ep, hi, ha, hr⟩
      have hun1 := s1 _ _ hun
      walk_at "go"
      refine iteP (fun h => ?_) (fun h => ?_)
      · have hzi : i < zs.length := by omega
        obtain ⟨m, am, hm1, hza, sm⟩ := hz.get (List.getElem?_eq_getElem hzi)
        have hz1 : zs[i]? = some (.ref am) := by rw [List.getElem?_eq_getElem hzi, hza]
        have sm1 := s1 _ _ (M.sU _ _ sm)
        have hml := hu m (List.mem_of_getElem? hm1)
        rw [drop_at hm1, rdC] at hr
        walk_at "go"
        refine ⟨un, _, _, _, rfl, rfl, SqL.of hun1, at_of (j := i) (by omega) hz1, ?_⟩
        refine ⟨am, _, rfl, .inl (SqL.of sm1), ?_⟩
        rw [List.length_map, List.length_map]
        walk_at "go"
        refine iteP (fun h2 => ?_) (fun h2 => ?_)
        · rw [if_neg (by omega)] at hr
          refine ⟨_, fun σ' H' hN => ⟨f - 1, by omega, hN⟩, ?_⟩
          walk_at "go"
          refine ⟨un, _, _, _, rfl, rfl, SqL.of hun1, at_of (j := i) (by omega) hz1, ?_⟩
          refine ⟨p, am, _, _, rfl, rfl, ep, sm1, ?_, fun p2 h2 => ?_⟩
          · rw [List.length_map, List.length_map]; exact len_lineW (by omega)
          rw [← List.map_append]
          walk_at "go"
          refine ⟨i + 1, acc ++ m, p2, ?_, s1.trans (same_upd h2), s1.free h2, upd_same, by omega, by rw [List.length_append]; omega, hr⟩
          rw [Int.natCast_add]; rfl
        · rw [if_pos (by omega)] at hr
          exact ⟨i, acc, p, rfl, s1, pn, ep, by omega, by rw [hr, drop_at hm1]⟩
      · have : i = us.length := by omega
        subst this
        refine ⟨us.length, acc, p, rfl, s1, pn, ep, Nat.le_refl _, ?_⟩
        rw [hr, List.drop_length]; rfl
    · rintro σ H1 ⟨i, acc, p, rfl, s1, pn, ep, hi, hr⟩
      have M1 := M.same s1
      obtain ⟨dx1, o1⟩ := M1.ob
      walk_at "go"
      refine ⟨o, dx1, _, rfl, o1, mF_no _ _ _ (by decide +kernel) (by decide +kernel) (by decide +kernel), ?_⟩
      walk_at "go"
      refine ⟨o, dq, du, qs, us, n, most, U, rfl, M1, hu, hl, hm0, hm, fun p2 H2 b2 n2 e2 M2 => ?_⟩
      obtain ⟨dx0, o0⟩ := M.ob
      obtain ⟨ys0, u0, _⟩ := M.lu
      have ep2 := b2 _ _ ep (fun z => by rw [z, o0] at pn; cases pn) (fun z => by rw [z, u0] at pn; cases pn)
      have hun2 := b2 _ _ (s1 _ _ hun) (fun z => by rw [z, o0] at hun; cases hun) hne
      rw [hr] at e2
      walk_at "go"
      refine t_ne (dp_ints (SqL.of e2)) (dp_ints (SqL.of ep2)) (sh_ints _).shaped (sh_ints _).shaped ⟨_, rfl, ne_self (sh_ints _).shaped rfl ?_⟩
      walk_at "go"
      refine ⟨un, _, rfl, SqL.of hun2, fun p3 h3 => ?_⟩
      rw [cutV_from (by omega)]
      have s3 := same_upd (o := .lst (zs.drop i)) h3
      refine q p3 _ i (fun c u e h1 h2 => s3 _ _ (b2 _ _ (s1 _ _ e) h1 h2)) ?_ upd_same (by rw [hr]) (M2.same s3)
      cases e : H p3 with
      | none => rfl
      | some u =>
        have e' := s1 _ _ e
        by_cases c1 : p3 = o
        · obtain ⟨dx2, o2⟩ := M2.ob
          rw [c1, o2] at h3; cases h3
        · by_cases c2 : p3 = du
          · obtain ⟨ys2, u2, _⟩ := M2.lu
            rw [c2, u2] at h3; cases h3
          · rw [b2 _ _ e' c1 c2] at h3; cases h3
/-! ### the law -/
theorem call_len_lst {X : Cx} {K : PySem.W.Frag} (h : X.K = K) : CallR X (.builtin "len") (fun xs H Q => ∃ p ys, xs = [V.ref p] ∧ (SqL K H p ys ∨ SqT K H p ys) ∧ Q (V.int (ys.length : Int)) H) := h ▸ call_len_seq
structure InvM (C : Addr) (K : PySem.W.Frag) (U H : Hp) (a : Addr) (ns : List Int) (o dq du st pq un : Addr) (xs qs : List Int) (us : List (List Int)) (zs : List V) (m : Nat) : Prop where
  mb : MbAt C K U H o dq du qs us (sumL us)
  sa : SqL K U a (ns.map V.int)
  es : U st = some (.lst (xs.map V.int))
  ok : okOcts xs
  xl : xs.length ≤ 600000
  eq : U pq = some (.lst (qs.map V.int))
  qok : okOcts qs
  ql : qs.length ≤ 16384
  un0 : U un = none
  nq : un ≠ dq
  nu : un ≠ du
  uh : H un = some (.lst zs)
  ll : LLs U zs us
  ul : ∀ u ∈ us, u.length ≤ 3001
  um : us.length ≤ m
theorem InvM.ext {C : Addr} {K : PySem.W.Frag} {U H U' H' : Hp} {a : Addr} {ns : List Int} {o dq du st pq un : Addr} {xs qs : List Int} {us : List (List Int)} {zs : List V} {m : Nat}
    (h : InvM C K U H a ns o dq du st pq un xs qs us zs m) (x : Ext U H U' H') : InvM C K U' H' a ns o dq du st pq un xs qs us zs m :=
  ⟨h.mb.ext x, x.vv.seq h.sa, x.vv _ _ h.es, h.ok, h.xl, x.vv _ _ h.eq, h.qok, h.ql, x.keepOut h.un0 (by rw [h.uh]; exact fun z => by cases z), h.nq, h.nu, x.hh _ _ h.uh, h.ll.to x.vv, h.ul, h.um⟩
theorem hct (xs : List Int) (k : Nat) : cutV (xs.map V.int) none (some (k : Int)) = (xs.take k).map V.int := by
  rw [List.map_take]
  by_cases c : k ≤ xs.length
  · exact cutV_to (by rw [List.length_map]; exact c)
  · unfold cutV
    rw [HT.sIx_nat, HT.sIx_none, Nat.min_eq_right (by rw [List.length_map]; omega), List.take_of_length_le (i := k) (by rw [List.length_map]; omega)]
    exact List.take_of_length_le (by rw [List.length_drop]; exact Nat.le_refl _)
theorem hcf (xs : List Int) (k : Nat) : cutV (xs.map V.int) (some (k : Int)) none = (xs.drop k).map V.int := by
  rw [List.map_drop]
  by_cases c : k ≤ xs.length
  · exact cutV_from (by rw [List.length_map]; exact c)
  · unfold cutV
    rw [HT.sIx_nat, HT.sIx_none, Nat.min_eq_right (by rw [List.length_map]; omega), List.drop_eq_nil_of_le (i := k) (by rw [List.length_map]; omega), Nat.sub_self]; rfl
theorem take_min (ts : List Int) (k : Nat) : ts.take (min ts.length k) = ts.take k := by
  rcases Nat.le_total ts.length k with c | c
  · rw [Nat.min_eq_left c, List.take_length, List.take_of_length_le c]
  · rw [Nat.min_eq_right c]
def LawJ (C : Addr) (K : PySem.W.Frag) (a : Addr) (ns : List Int) (m : Nat) : St → Hp → Prop := fun σ H => ∃ (U : Hp) (o dq du st pq un : Addr) (xs qs : List Int) (us : List (List Int)) (zs : List V) (v5 v6 v7 v8 v9 v10 v11 : Option V),
  σ = [some (.ref a), some (.ref o), some (.ref st), some (.ref pq), some (.ref un), v5, v6, v7, v8, v9, v10, v11] ∧ InvM C K U H a ns o dq du st pq un xs qs us zs m
theorem sumL_drop (us : List (List Int)) : sumL us = (us.map fun u => (u.length : Int)).sum := rfl
theorem three_at : ∀ j : Nat, j < 3 → ∃ z : Nat, ([V.int 1, V.int 1, V.int 30] : List V)[j]? = some (V.int (z : Int)) ∧ z ≤ 30
  | 0, _ => ⟨1, rfl, by decide⟩ | 1, _ => ⟨1, rfl, by decide⟩ | 2, _ => ⟨30, rfl, by decide⟩
  | j + 3, h => absurd h (by omega)
theorem sc_law : FnScope ["script", "mail", "stream", "queue", "unread", "k", "row", "deed", "part", "taken", "one", "j"] ["script"] (defScope s_law) := ⟨rfl, rfl, rfl, by decide +kernel, rfl, by decide +kernel, by decide +kernel⟩
theorem ok_law (T : Txt K mg A) : FnOk P w K mg base CX0 10 A.flaw A.dlaw ["script"] (sp_law K) := by
  refine T.Flaw.ok sc_law (fun vs H Q E h => ?_) (fun cdv Ar outer s H vs Q E hr h => ?_)
  · obtain ⟨a, ns, rfl, _⟩ := h
    rfl
  · obtain ⟨a, ns, rfl, hS, hlen, q⟩ := h
    refine ⟨_, (pss_cons (ps_set (i := 1) sc_law.nd rfl (Or.inl rfl) (pe_make0 T.MMailbox (ok_Mailbox___init__ T) (hr.mono (by decide)) rfl T.gMailbox T.bMailbox___init__ .nil pass0))
      (pss_cons (ps_set (i := 2) sc_law.nd rfl (Or.inl rfl) (pe_call (ok__law_stream T) (hr.mono (by decide)) rfl T.g_law_stream T.k_law_stream T.b_law_stream .nil pass0 (pa_cons (pv 0) pa_nil)))
      (pss_cons (ps_set (i := 3) sc_law.nd rfl (Or.inl rfl) (pe_lst pa_nil))
      (pss_cons (ps_set (i := 4) sc_law.nd rfl (Or.inl rfl) (pe_lst pa_nil))
      (pss_cons (ps_for PassesOwn.never rfl (pi_range1 (by rfl) T.range (pa_cons (pe_op op_add (pe_callB (call_min2 rfl) (by rfl) T.min (by decide +kernel) (pa_cons pe_int (pa_cons (pe_callB call_len_seq (by rfl) T.len PySem.boot_len (pa_cons (pv 0) pa_nil)) pa_nil))) pe_int) pa_nil)) (pg_name (i := 5) sc_law.nd rfl (Or.inl rfl))
      (pss_cons (ps_set (i := 6) sc_law.nd rfl (Or.inl rfl) (pe_call (ok__law_row T) (hr.mono (by decide)) rfl T.g_law_row T.k_law_row T.b_law_row .nil pass0 (pa_cons (pv 0) (pa_cons (pv 5) pa_nil))))
      (pss_cons (ps_set (i := 7) sc_law.nd rfl (Or.inl rfl) (pe_op op_mod (pe_callTy call_int1 (by rfl) T.int (by decide +kernel) (pa_cons (pv 6) pa_nil)) pe_int))
      (C8.pss_cut (ps_if (pt_cmpR op_lt (pv 7) pe_int (nomark _))
      (pss_cons (ps_set (i := 8) sc_law.nd rfl (Or.inl rfl) (pe_slice (r := rSlL K) sl_list (pv 2) po_none (po_some (pe_op op_add (pe_op op_mod (pe_callTy call_int1 (by rfl) T.int (by decide +kernel) (pa_cons (pe_op op_fdiv (pv 6) pe_int) pa_nil)) pe_int) pe_int))))
      (C8.pss_cut (ps_if (pt_cmpR op_eq (pe_op op_mod (pe_callTy call_int1 (by rfl) T.int (by decide +kernel) (pa_cons (pe_op op_fdiv (pv 6) pe_int) pa_nil)) pe_int) pe_int (nomark _))
      (pss_one (ps_set (i := 8) sc_law.nd rfl (Or.inl rfl) (pe_slice (r := rSlL K) sl_list (pv 2) po_none (po_some pe_int))))
      pss_nil)
      (pss_cons (ps_set (i := 9) sc_law.nd rfl (Or.inl rfl) (pe_callB (call_min2 rfl) (by rfl) T.min (by decide +kernel) (pa_cons (pe_callB call_len_seq (by rfl) T.len PySem.boot_len (pa_cons (pv 8) pa_nil)) (pa_cons (pe_op op_sub pe_int (pe_callB call_len_seq (by rfl) T.len PySem.boot_len (pa_cons (pv 3) pa_nil))) pa_nil))))
      (pss_cons (ps_if (pt_cmpR op_ne (pe_meth (pv 1) T.clMailbox T.mMailbox_put (ok_Mailbox_put T) (hr.mono (by decide)) T.bMailbox_put .nil pass0 (pa_cons (pv 8) pa_nil)) (pv 9) (nomark _))
      (pss_one (ps_ret pe_bl))
      pss_nil)
      (pss_cons (ps_set (i := 3) sc_law.nd rfl (Or.inl rfl) (pe_op op_cat (pv 3) (pe_slice (r := rSlL K) sl_list (pv 8) po_none (po_some (pv 9)))))
      (pss_one (ps_set (i := 2) sc_law.nd rfl (Or.inl rfl) (pe_slice (r := rSlL K) sl_list (pv 2) (po_some (pv 9)) po_none))))))))
      (pss_one (ps_if (pt_cmpR op_eq (pv 7) pe_int (nomark _))
      (pss_one (ps_set (i := 3) sc_law.nd rfl (Or.inl rfl) (pe_call (ok__law_take T) (hr.mono (by decide)) rfl T.g_law_take T.k_law_take T.b_law_take .nil pass0 (pa_cons (pv 1) (pa_cons (pv 3) pa_nil)))))
      (pss_one (ps_if (PW.pt (pw_or (pt_cmpR op_eq (pv 7) pe_int (nomark _)) (pw_or1 (pt_cmpR op_eq (pv 7) pe_int (nomark _)))))
      (pss_cons (ps_set (i := 10) sc_law.nd rfl (Or.inl rfl) (pe_op op_rep (pe_lst (pa_cons (pe_op op_mod (pe_callTy call_int1 (by rfl) T.int (by decide +kernel) (pa_cons (pe_op op_fdiv (pv 6) pe_int) pa_nil)) pe_int) pa_nil)) (pe_op op_add pe_int (pe_op op_mod (pe_callTy call_int1 (by rfl) T.int (by decide +kernel) (pa_cons (pe_op op_fdiv (pv 6) pe_int) pa_nil)) pe_int))))
      (pss_one (ps_for PassesOwn.never rfl (pi_range1 (by rfl) T.range (pa_cons (pe_ix (r := rIxL K) ix_list (pe_lst (pa_cons pe_int (pa_cons pe_int (pa_cons pe_int pa_nil)))) (pe_op op_mod (pe_callTy call_int1 (by rfl) T.int (by decide +kernel) (pa_cons (pe_op op_fdiv (pv 6) pe_int) pa_nil)) pe_int) (fun _ _ => rfl)) pa_nil)) (pg_name (i := 11) sc_law.nd rfl (Or.inl rfl))
      (pss_cons (ps_expr (pe_meth (pv 1) T.clMailbox T.mMailbox_tell (ok_Mailbox_tell T) (hr.mono (by decide)) T.bMailbox_tell .nil pass0 (pa_cons (pv 10) pa_nil)))
      (pss_one (ps_expr (pe_bm PySem.F.plainAttrs_list PySem.F.slot_list_append PySem.F.type_list_append mt_append (pv 4) (pa_cons (pv 10) pa_nil))))))))
      (pss_one (ps_set (i := 4) sc_law.nd rfl (Or.inl rfl) (pe_call (ok__law_read T) (hr.mono (by decide)) rfl T.g_law_read T.k_law_read T.b_law_read .nil pass0 (pa_cons (pv 1) (pa_cons (pv 4) (pa_cons (pe_op op_mod (pe_callTy call_int1 (by rfl) T.int (by decide +kernel) (pa_cons (pe_op op_fdiv (pv 6) pe_int) pa_nil)) pe_int) pa_nil)))))))))))
      (pss_cons (ps_if (PW.pt (pw_or (pt_cmpR op_isN (pv 3) pe_non (nomark _)) (pw_or (pt_cmpR op_isN (pv 4) pe_non (nomark _)) (pw_or1 (pt_not (pt_val (pe_call (ok__law_front_good T) (hr.mono (by decide)) rfl T.g_law_front_good T.k_law_front_good T.b_law_front_good .nil pass0 (pa_cons (pv 1) (pa_cons (pv 3) pa_nil)))))))))
      (pss_one (ps_ret pe_bl))
      pss_nil)
      (pss_one (ps_if (pt_cmpR op_ne (pe_meth0 (pv 1) T.clMailbox T.mMailbox_is_slow (ok_Mailbox_is_slow T) (hr.mono (by decide)) T.bMailbox_is_slow .nil pass0) (pe_or (pe_cmpR op_gt (pe_callB call_len_seq (by rfl) T.len PySem.boot_len (pa_cons (pv 4) pa_nil)) pe_int (nomark _)) (pe_one (pe_cmpR op_gt (pe_callB (cr_sum rfl) (by rfl) T.sum (by decide +kernel) (pa_cons (pe_lc (own := [("one", 10)]) (g := (gName 10)) (tt := tYes) rfl sc_law.nd (pi_list (pv 4)) (blkOk_by (own := [("one", 10)]) (N := ["script", "mail", "stream", "queue", "unread", "k", "row", "deed", "part", "taken", "one", "j"]) (sc := defScope s_law) (by decide +kernel)) (fun _ _ _ _ _ => (pg_name (i := 10) sc_law.nd rfl (Or.inl rfl))) (fun _ _ _ _ _ => pts_nil) (fun _ _ _ _ _ => by exact (pe_callB (call_len_lst (K := K) rfl) (by rfl) T.len PySem.boot_len (pa_cons (pv 10) pa_nil)))) pa_nil)) pe_int (nomark _)))) (nomark _))
      (pss_one (ps_ret pe_bl))
      pss_nil)))))))
      (pss_one (ps_ret pe_bl))))))), ?_⟩
    walk_at "go"
    intro o dx fo fdx hdo
    have s0 : Same H (upd (upd H dx (.own o)) o (.ins A.CMailbox dx [])) := fun c u e => by
      rw [upd_ne (ne_of_none e fo), upd_ne (ne_of_none e fdx)]; exact e
    refine ⟨o, dx, H, rfl, upd_same, s0, fo, fun dq du H1 b1 M1 => ⟨rfl, ?_⟩⟩
    have s1 : Same H H1 := M1.sU
    walk_at "go"
    refine ⟨a, ns, rfl, s1.seq hS, fun st H2 xs n2 ho hl => ?_⟩
    have x2 := n2.ext s1
    have M2 := M1.ext x2
    have es : (upd H st (.lst (xs.map V.int))) st = some (.lst (xs.map V.int)) := upd_same
    have sa2 := x2.vv.seq hS
    generalize upd H st (.lst (xs.map V.int)) = U2 at x2 M2 es sa2
    walk_at "go"
    rename_i pq hpq un hun
    have x3 := Ext.new (o := .lst []) M2.sU hpq
    have M3 := M2.ext x3
    have eq3 : (upd U2 pq (.lst [])) pq = some (.lst (([] : List Int).map V.int)) := upd_same
    have es3 := x3.vv _ _ es
    have sa3 := x3.vv.seq sa2
    generalize upd U2 pq (.lst []) = U3 at x3 M3 eq3 es3 sa3
    generalize upd H2 pq (.lst []) = H3 at x3 M3 hun ⊢
    have s4 := same_upd (o := .lst []) hun
    have M4 := M3.same s4
    have I0 : InvM A.CMailbox K U3 (upd H3 un (.lst [])) a ns o dq du st pq un xs [] [] [] 0 :=
      ⟨M4, sa3, es3, ho, hl, eq3, (fun x hx => by cases hx), Nat.zero_le _, M3.sU.free hun, (ne_of_none M3.lq hun).symm, (by obtain ⟨ys, e, _⟩ := M3.lu; exact (ne_of_none e hun).symm), upd_same, .nil, (fun u hu => by cases hu), Nat.le_refl _⟩
    have sH := ((s1.trans n2.same).trans (x3.hh.trans s4))
    generalize upd H3 un (.lst []) = H4 at I0 sH ⊢
    clear M4 s4 M3 M2 M1 x3 x2 b1 s0 s1 n2 hun hpq es es3 sa2 sa3 eq3 U2 H3 H2 H1
    refine ⟨a, _, rfl, .inl (sH.seq hS), ?_⟩
    walk_at "go"
    rw [List.length_map]
    refine ⟨by split <;> omega, by split <;> omega, ?_⟩
    have hn : ((if (ns.length : Int) < 40 then (ns.length : Int) else 40) + 1).toNat ≤ 41 := by split <;> omega
    generalize ((if (ns.length : Int) < 40 then (ns.length : Int) else 40) + 1).toNat = nn at hn ⊢
    refine for_range (lo := 0) (fun i σ H' => LawJ A.CMailbox K a ns (30 * i) σ H')
      ⟨U3, o, dq, du, st, pq, un, xs, [], [], [], none, none, none, none, none, none, none, rfl, I0⟩ ?_ (fun σ H' _ => q _)
    rintro i σ H1 hi ⟨U, o, dq, du, st, pq, un, xs, qs, us, zs, v5, v6, v7, v8, v9, v10, v11, rfl, I⟩
    clear I0 sH fo fdx hdo hl ho
    have hm : 30 * i ≤ 1230 := by omega
    walk_at "go"
    refine ⟨a, ns, i, ?_, I.mb.sU.seq I.sa, ?_⟩
    · show [V.ref a, V.int (0 + (i : Int))] = [V.ref a, V.int (i : Int)]
      rw [Int.zero_add]
    have hr0 := lawRow_nn ns i
    generalize lawRow ns i = row at hr0 ⊢
    walk_at "gx"
    refine ⟨fun σ' H' => LawJ A.CMailbox K a ns (30 * (i + 1)) σ' H', ?_, ?_⟩
    · walk_at "gx"
      refine iteP (fun hd => ?_) (fun hd => ?_)
      · -- put
        walk_at "gx"
        refine ⟨st, _, rfl, I.mb.sU.seq (SqL.of I.es), fun p1 h1 => ?_⟩
        obtain ⟨c, hc⟩ : ∃ c : Nat, row / 6 % 700 + 1 = c := ⟨(row / 6 % 700 + 1).toNat, by omega⟩
        dsimp only
        rw [hc, hct]
        have x1 := Ext.new (o := .lst ((xs.take c).map V.int)) I.mb.sU h1
        have ep1 : (upd U p1 (.lst ((xs.take c).map V.int))) p1 = some (.lst ((xs.take c).map V.int)) := upd_same
        have I1 := I.ext x1
        clear I
        generalize upd U p1 (.lst ((xs.take c).map V.int)) = U1 at x1 ep1 I1
        generalize upd H1 p1 (.lst ((xs.take c).map V.int)) = H2 at x1 I1 ⊢
        refine ⟨fun σ' H' => ∃ (U' : Hp) (pp : Addr) (ts : List Int) (v9' v10' v11' : Option V), σ' = [some (.ref a), some (.ref o), some (.ref st), some (.ref pq), some (.ref un), some (.int (0 + (i : Int))), some (.int row), some (.int (row % 6)), some (.ref pp), v9', v10', v11'] ∧ U' pp = some (.lst (ts.map V.int)) ∧ okOcts ts ∧ ts.length ≤ 600000 ∧ InvM A.CMailbox K U' H' a ns o dq du st pq un xs qs us zs (30 * i), ?_, ?_⟩
        · walk_at "gx"
          refine iteEq (fun h => ?_) (fun h => ?_)
          · walk_at "gx"
            refine ⟨st, _, rfl, I1.mb.sU.seq (SqL.of I1.es), fun p2 h2 => ?_⟩
            rw [show (cutV (xs.map V.int) none (some 16384)) = (xs.take 16384).map V.int from hct xs 16384]
            have x2 := Ext.new (o := .lst ((xs.take 16384).map V.int)) I1.mb.sU h2
            exact ⟨_, p2, _, _, _, _, rfl, upd_same, okO_take I1.ok _, by have := I1.xl; rw [List.length_take]; omega, I1.ext x2⟩
          · exact ⟨U1, p1, _, _, _, _, rfl, ep1, okO_take I1.ok _, by have := I1.xl; rw [List.length_take]; omega, I1⟩
        · rintro σ' H3 ⟨U3, pp, ts, v9', v10', v11', rfl, ep, oT, lT, I3⟩
          have hql := I3.ql
          walk_at "go"
          refine ⟨pp, _, rfl, .inl (I3.mb.sU.seq (SqL.of ep)), ?_⟩
          walk_at "go"
          refine ⟨pq, _, rfl, .inl (I3.mb.sU.seq (SqL.of I3.eq)), ?_⟩
          walk_at "go"
          rw [List.length_map, List.length_map]
          have hk : (if (16384 : Int) - (qs.length : Int) < (ts.length : Int) then (16384 : Int) - (qs.length : Int) else (ts.length : Int)) = ((min ts.length (16384 - qs.length) : Nat) : Int) := by split <;> omega
          dsimp only
          rw [hk]
          obtain ⟨dx3, o3⟩ := I3.mb.ob
          walk_at "go"
          refine ⟨o, dx3, _, rfl, o3, mF_no _ _ _ (by decide +kernel) (by decide +kernel) (by decide +kernel), ?_⟩
          walk_at "go"
          refine ⟨o, dq, du, pp, qs, ts, us, sumL us, U3, rfl, I3.mb, I3.mb.sU _ _ ep, hql, fun H4 b4 M4 => ?_⟩
          walk_at "go"
          refine iteNe (fun h => absurd ?_ h) (fun _ => ?_)
          · rw [List.length_take, Nat.min_comm]
          have ht : ts.take (min ts.length (16384 - qs.length)) = ts.take (16384 - qs.length) := take_min _ _
          generalize min ts.length (16384 - qs.length) = t at ht ⊢
          walk_at "go"
          refine ⟨pp, _, rfl, M4.sU.seq (SqL.of ep), fun p4 h4 => ?_⟩
          rw [hct, ht]
          have x4 := Ext.new (o := .lst ((ts.take (16384 - qs.length)).map V.int)) M4.sU h4
          have M5 := M4.ext x4
          have e4 : (upd H4 p4 (.lst ((ts.take (16384 - qs.length)).map V.int))) p4 = some (.lst ((ts.take (16384 - qs.length)).map V.int)) := upd_same
          generalize upd U3 p4 (.lst ((ts.take (16384 - qs.length)).map V.int)) = U5 at x4 M5
          generalize upd H4 p4 (.lst ((ts.take (16384 - qs.length)).map V.int)) = H5 at x4 M5 e4 ⊢
          refine ⟨pq, p4, _, _, rfl, rfl, M5.sU _ _ (x4.vv _ _ I3.eq), e4, ?_, fun p5 h5 => ?_⟩
          · rw [List.length_map, List.length_map, List.length_take]; exact len_lineW (by omega)
          rw [← List.map_append]
          have x5 := Ext.new (o := .lst ((qs ++ ts.take (16384 - qs.length)).map V.int)) M5.sU h5
          have M6 := M5.ext x5
          have e5 : (upd U5 p5 (.lst ((qs ++ ts.take (16384 - qs.length)).map V.int))) p5 = some (.lst ((qs ++ ts.take (16384 - qs.length)).map V.int)) := upd_same
          generalize upd U5 p5 (.lst ((qs ++ ts.take (16384 - qs.length)).map V.int)) = U6 at x5 M6 e5
          generalize upd H5 p5 (.lst ((qs ++ ts.take (16384 - qs.length)).map V.int)) = H6 at x5 M6 ⊢
          have es6 := x5.vv _ _ (x4.vv _ _ I3.es)
          walk_at "go"
          refine ⟨st, _, rfl, M6.sU.seq (SqL.of es6), fun p6 h6 => ?_⟩
          rw [hcf]
          have x6 := Ext.new (o := .lst ((xs.drop t).map V.int)) M6.sU h6
          have xx := (x4.trans x5).trans x6
          have uh4 := b4 _ _ I3.uh I3.nq
          refine ⟨_, o, dq, du, p6, p5, un, xs.drop t, putQ qs ts, us, zs, _, _, _, _, _, _, _, rfl, ⟨M6.ext x6, xx.vv.seq I3.sa, upd_same, okO_drop I3.ok _, ?_, x6.vv _ _ e5, okO_app I3.qok (okO_take oT _), ?_, xx.keepOut I3.un0 (by rw [uh4]; exact fun z => by cases z), I3.nq, I3.nu, xx.hh _ _ uh4, I3.ll.to xx.vv, I3.ul, by have := I3.um; omega⟩⟩
          · have := I3.xl
            rw [List.length_drop]; omega
          · unfold putQ
            rw [List.length_append, List.length_take]; omega
      · walk_at "gx"
        refine iteEq (fun hd2 => ?_) (fun hd2 => ?_)
        · -- take
          walk_at "go"
          refine ⟨o, dq, du, pq, qs, us, sumL us, U, rfl, I.mb, I.eq, I.qok, by have := I.ql; omega, fun p U' H' qs' g b M e hk => ?_⟩
          obtain ⟨k, rfl⟩ := hk
          refine ⟨U', o, dq, du, st, p, un, xs, qs.drop k, us, zs, _, _, _, _, _, _, _, rfl, ⟨M, g.vv.seq I.sa, g.vv _ _ I.es, I.ok, I.xl, e, okO_drop I.qok _, by have := I.ql; rw [List.length_drop]; omega, g.keepOut I.un0 (by rw [I.uh]; exact fun z => by cases z), I.nq, I.nu, b _ _ I.uh I.nq, I.ll.to g.vv, I.ul, by have := I.um; omega⟩⟩
        · walk_at "gx"
          refine iteEq (fun h3 => ?_) (fun h3 => ?_)
          rotate_left
          walk_at "gx"
          refine iteEq (fun h3 => ?_) (fun h3 => ?_)
          rotate_left
          · -- read
            walk_at "gx"
            refine ⟨o, dq, du, un, qs, us, zs, sumL us, row / 6 % 9000, U, rfl, I.mb, I.uh, I.ll, I.nu, (fun u hu => by have := I.ul u hu; omega), by have := I.um; omega, by omega, by omega, fun r H' j b rn er hj M => ?_⟩
            have hs := rdC_sum (row / 6 % 9000) us []
            rw [show (([] : List Int).length : Int) = 0 from rfl, Int.zero_add] at hs
            rw [show sumL us - ((rdC (row / 6 % 9000) [] us).1.length : Int) = sumL (rdC (row / 6 % 9000) [] us).2 by omega, hj] at M
            have hun : r ≠ dq := fun z => by rw [z, I.mb.lq] at rn; cases rn
            have hud : r ≠ du := fun z => by obtain ⟨y, e, _⟩ := I.mb.lu; rw [z, e] at rn; cases rn
            refine ⟨U, o, dq, du, st, pq, r, xs, qs, us.drop j, zs.drop j, _, _, _, _, _, _, _, rfl, ⟨M, I.sa, I.es, I.ok, I.xl, I.eq, I.qok, I.ql, I.mb.sU.free rn, hun, hud, er, I.ll.drop j, fun u hu => I.ul u (List.mem_of_mem_drop hu), by have := I.um; rw [List.length_drop]; omega⟩⟩
          all_goals
            walk_at "gx"
            rename_i p4 h4
            walk_at "gx"
            have x4 := Ext.skip (o := .lst [V.int (row / 6 % 256)]) I.mb.sU h4
            have e4 : (upd H1 p4 (.lst [V.int (row / 6 % 256)])) p4 = some (.lst [V.int (row / 6 % 256)]) := upd_same
            have I4 := I.ext x4
            generalize upd H1 p4 (.lst [V.int (row / 6 % 256)]) = H4 at x4 e4 I4 ⊢
            obtain ⟨c, hc⟩ : ∃ c : Nat, 8 + row / 12 % 2993 = c := ⟨(8 + row / 12 % 2993).toNat, by omega⟩
            have hc2 : c ≤ 3001 := by omega
            dsimp only
            rw [hc]
            refine ⟨p4, _, _, rfl, rfl, e4, by omega, by omega, len_line (by show 1 * ((c : Int)).toNat ≤ _; omega), fun p5 h5 => ?_⟩
            rw [Int.toNat_natCast, rep_flat]
            have x5 := Ext.new (o := .lst (List.replicate c (V.int (row / 6 % 256)))) I4.mb.sU h5
            have I5 := I4.ext x5
            have e5 : (upd U p5 (.lst (List.replicate c (V.int (row / 6 % 256))))) p5 = some (.lst ((List.replicate c (row / 6 % 256)).map V.int)) := by rw [upd_same, List.map_replicate]
            have hol : (List.replicate c (row / 6 % 256)).length ≤ 3001 := by rw [List.length_replicate]; exact hc2
            generalize List.replicate c (row / 6 % 256) = ones at e5 hol
            generalize upd U p5 (.lst (List.replicate c (V.int (row / 6 % 256)))) = U5 at x5 I5 e5
            generalize upd H4 p5 (.lst (List.replicate c (V.int (row / 6 % 256)))) = H5 at x5 I5 ⊢
            walk_at "gx"
            rename_i p6 h6
            walk_at "gx"
            have x6 := Ext.skip (o := .lst [V.int 1, V.int 1, V.int 30]) I5.mb.sU h6
            have e6 : (upd H5 p6 (.lst [V.int 1, V.int 1, V.int 30])) p6 = some (.lst [V.int 1, V.int 1, V.int 30]) := upd_same
            have I6 := I5.ext x6
            generalize upd H5 p6 (.lst [V.int 1, V.int 1, V.int 30]) = H6 at x6 e6 I6 ⊢
            obtain ⟨z, hz, hz2⟩ := three_at (row / 36 % 3).toNat (by omega)
            refine ⟨p6, _, _, .int (z : Int), rfl, rfl, SqL.of e6, at_of (j := (row / 36 % 3).toNat) (by omega) hz, ?_⟩
            refine ⟨(z : Int), rfl, by omega, by omega, ?_⟩
            rw [Int.toNat_natCast]
            have hm2 : 30 * i + z ≤ 30 * (i + 1) := by omega
            clear I I4 x4 e4 x5 x6 h4 h5 h6 e6 hz
            refine for_range (lo := 0) (fun j σ H' => ∃ (U' : Hp) (us' : List (List Int)) (zs' : List V) (v11' : Option V), σ = [some (.ref a), some (.ref o), some (.ref st), some (.ref pq), some (.ref un), some (.int (0 + (i : Int))), some (.int row), some (.int (row % 6)), v8, v9, some (.ref p5), v11'] ∧ U' p5 = some (.lst (ones.map V.int)) ∧ InvM A.CMailbox K U' H' a ns o dq du st pq un xs qs us' zs' (30 * i + j))
              ⟨U5, us, zs, _, rfl, e5, I6⟩ ?_ ?_
            · rintro j σ H7 hj ⟨U7, us7, zs7, v11', rfl, e7, I7⟩
              obtain ⟨dx7, o7⟩ := I7.mb.ob
              have hum7 := I7.um
              have p5u : p5 ≠ du := fun z => by
                have := I7.mb.uu
                rw [← z, e7] at this; cases this
              walk_at "go"
              refine ⟨o, dx7, _, rfl, o7, mF_no _ _ _ (by decide +kernel) (by decide +kernel) (by decide +kernel), ?_⟩
              walk_at "go"
              refine ⟨o, dq, du, p5, qs, ones, us7, sumL us7, U7, rfl, I7.mb, I7.mb.sU _ _ e7, p5u, by omega, fun U8 H8 g8 b8 M8 => ?_⟩
              have hno : un ≠ o := fun z => by
                have := I7.uh
                rw [z, o7] at this; cases this
              have uh8 := b8 _ _ I7.uh hno I7.nu
              have un8 := g8.keepOut I7.un0 (by rw [I7.uh]; exact fun z => by cases z)
              have hzl7 := I7.ll.len
              refine ⟨_, rfl, .inl ⟨rfl, _, SqL.of uh8⟩, ?_⟩
              walk_at "go"
              refine ⟨un, _, _, rfl, rfl, uh8, Nat.lt_of_lt_of_le (m := 100000) (by omega) (by decide), ?_⟩
              refine ⟨U8, us7 ++ [ones], zs7 ++ [.ref p5], _, rfl, g8.vv _ _ e7, ⟨?_, g8.vv.seq I7.sa, g8.vv _ _ I7.es, I7.ok, I7.xl, g8.vv _ _ I7.eq, I7.qok, I7.ql, un8, I7.nq, I7.nu, upd_same, (I7.ll.to g8.vv).push (g8.vv _ _ e7), ?_, ?_⟩⟩
              · rw [sumL_app, sumL_one]
                obtain ⟨dx8, o8⟩ := M8.ob
                obtain ⟨y8, u8, l8⟩ := M8.lu
                exact ⟨same_poke M8.sU un8, M8.uo, M8.uq, M8.uu, M8.ne, ⟨dx8, by rw [upd_ne hno.symm]; exact o8⟩, by rw [upd_ne I7.nq.symm]; exact M8.lq, ⟨y8, by rw [upd_ne I7.nu.symm]; exact u8, l8⟩⟩
              · intro u hu
                rcases List.mem_append.mp hu with h | h
                · exact I7.ul u h
                · rw [List.mem_singleton.mp h]; exact hol
              · rw [List.length_append]; show us7.length + 1 ≤ _; omega
            · rintro σ H7 ⟨U7, us7, zs7, v11', rfl, e7, I7⟩
              exact ⟨U7, o, dq, du, st, pq, un, xs, qs, us7, zs7, _, _, _, _, _, _, _, rfl, ⟨I7.mb, I7.sa, I7.es, I7.ok, I7.xl, I7.eq, I7.qok, I7.ql, I7.un0, I7.nq, I7.nu, I7.uh, I7.ll, I7.ul, Nat.le_trans I7.um hm2⟩⟩
    · rintro σ H2 ⟨U, o, dq, du, st, pq, un, xs, qs, us, zs, v5, v6, v7, v8, v9, v10, v11, rfl, I⟩
      have hum := I.um
      walk_at "go"
      refine ⟨o, dq, du, pq, qs, us, sumL us, U, rfl, I.mb, I.mb.sU _ _ I.eq, I.qok, by have := I.ql; omega, fun U3 H3 x3 => ?_⟩
      have I3 := I.ext x3
      obtain ⟨dx3, o3⟩ := I3.mb.ob
      have uh3 := I3.uh
      have hzl := I3.ll.len
      walk_at "go"
      refine ⟨o, dx3, _, rfl, o3, mF_no _ _ _ (by decide +kernel) (by decide +kernel) (by decide +kernel), ?_⟩
      refine ⟨o, dq, du, qs, us, sumL us, U3, rfl, I3.mb, ?_⟩
      walk_at "go"
      unfold slowB
      refine iteP (fun h => ?_) (fun h => ?_)
      · rw [decide_eq_true (show 1024 < us.length by omega), Bool.true_or]
        walk_at "go"
        exact ⟨U3, o, dq, du, st, pq, un, xs, qs, us, zs, v5, v6, v7, v8, v9, v10, v11, rfl, I3⟩
      · rw [decide_eq_false (show ¬ 1024 < us.length by omega), Bool.false_or]
        walk_at "go"
        refine ⟨⟨_, SqL.of uh3⟩, fun D hD => ?_⟩
        have hzl2 : zs.length ≤ 90000 := by omega
        refine lc_dp (walk_list (K := K) (a := un) (xs := zs)) (K := K) (V0 := H3) (H0 := H3) (fun i => (us[i]?).map fun u => PyData.int (u.length : Int)) [some (.ref a), some (.ref o), some (.ref st), some (.ref pq), some (.ref un), v5, v6, v7, v8, v9, none, v11] rfl (Same.refl _) hD (by omega) (fun H' s => SqL.of (s _ _ uh3)) (fun i x H H' y => y.1) ?_ ?_
        · rintro j x V1 H4 hj xx ⟨_, hx⟩ Qy Qn hy _
          obtain ⟨m, am, hm1, rfl, sm⟩ := I3.ll.get hx
          have sm1 := xx.hh _ _ (I3.mb.sU _ _ sm)
          refine ⟨rfl, _, rfl, am, m.map V.int, rfl, .inl (SqL.of sm1), ?_⟩
          rw [List.length_map]
          exact hy _ _ _ _ (by rw [hm1]; rfl) (Ext.refl xx.vh) (.int _)
        · rintro V1 H4 _ xx _ _ dl
          rw [hzl, show fm (fun i => (us[i]?).map fun u => PyData.int (u.length : Int)) us.length = (us.map fun u => (u.length : Int)).map PyData.int from by
            rw [List.map_map]; exact fm_list _ _ _ rfl _ fun i x hx => by rw [hx]; rfl] at dl
          have sD := xx.vh.seq (dp_intsL dl)
          have x4 : Ext U3 H3 U3 H4 := ⟨Same.refl _, I3.mb.sU.trans xx.hh, xx.hh, fun a h => Or.inl h⟩
          have I4 := I3.ext x4
          refine ⟨D, _, rfl, sD, ?_⟩
          rw [← sumL_drop]
          walk_at "go"
          refine if_f (b := !decide (V.bl (decide (65536 < sumL us)) = V.bl (decide (65536 < sumL us)))) (by rw [decide_eq_true rfl]; rfl) ?_
          exact ⟨U3, o, dq, du, st, pq, un, xs, qs, us, zs, v5, v6, v7, v8, v9, v10, v11, rfl, I4⟩
end
theorem all_mk {K : PySem.W.Frag} {h : Heap} {mg : Str → Option Value} {fa : Addr} (X : K.In h) (G : h.Ns mainGlobals mg) (hfa : mg "law" = some (.ref fa))
    {fis_integer : Addr} {od1 an1 : Option Addr} {sl1 : Array (Option Value)} {oc1 kV1 dc1 pm1 cd1 ct1 : Value}
    {fis_text : Addr} {od2 an2 : Option Addr} {sl2 : Array (Option Value)} {oc2 kV2 dc2 pm2 cd2 ct2 : Value}
    {fnumber_octets : Addr} {od3 an3 : Option Addr} {sl3 : Array (Option Value)} {oc3 kV3 dc3 pm3 cd3 ct3 : Value}
    {fnumber_at : Addr} {od4 an4 : Option Addr} {sl4 : Array (Option Value)} {oc4 kV4 dc4 pm4 cd4 ct4 : Value}
    {ffield_octets : Addr} {od5 an5 : Option Addr} {sl5 : Array (Option Value)} {oc5 kV5 dc5 pm5 cd5 ct5 : Value}
    {f_is_code : Addr} {od6 an6 : Option Addr} {sl6 : Array (Option Value)} {oc6 kV6 dc6 pm6 cd6 ct6 : Value}
    {f_is_of : Addr} {od7 an7 : Option Addr} {sl7 : Array (Option Value)} {oc7 kV7 dc7 pm7 cd7 ct7 : Value}
    {f_are_octets : Addr} {od8 an8 : Option Addr} {sl8 : Array (Option Value)} {oc8 kV8 dc8 pm8 cd8 ct8 : Value}
    {f_is_bound : Addr} {od9 an9 : Option Addr} {sl9 : Array (Option Value)} {oc9 kV9 dc9 pm9 cd9 ct9 : Value}
    {f_text_octets : Addr} {od10 an10 : Option Addr} {sl10 : Array (Option Value)} {oc10 kV10 dc10 pm10 cd10 ct10 : Value}
    {f_padded : Addr} {od11 an11 : Option Addr} {sl11 : Array (Option Value)} {oc11 kV11 dc11 pm11 cd11 ct11 : Value}
    {fencode_message : Addr} {od12 an12 : Option Addr} {sl12 : Array (Option Value)} {oc12 kV12 dc12 pm12 cd12 ct12 : Value}
    {fcut_messages : Addr} {od13 an13 : Option Addr} {sl13 : Array (Option Value)} {oc13 kV13 dc13 pm13 cd13 ct13 : Value}
    {fis_message_size : Addr} {od14 an14 : Option Addr} {sl14 : Array (Option Value)} {oc14 kV14 dc14 pm14 cd14 ct14 : Value}
    {f_cut : Addr} {od15 an15 : Option Addr} {sl15 : Array (Option Value)} {oc15 kV15 dc15 pm15 cd15 ct15 : Value}
    {f_law_cell : Addr} {od16 an16 : Option Addr} {sl16 : Array (Option Value)} {oc16 kV16 dc16 pm16 cd16 ct16 : Value}
    {f_law_row : Addr} {od17 an17 : Option Addr} {sl17 : Array (Option Value)} {oc17 kV17 dc17 pm17 cd17 ct17 : Value}
    {f_law_message : Addr} {od18 an18 : Option Addr} {sl18 : Array (Option Value)} {oc18 kV18 dc18 pm18 cd18 ct18 : Value}
    {f_law_stream : Addr} {od19 an19 : Option Addr} {sl19 : Array (Option Value)} {oc19 kV19 dc19 pm19 cd19 ct19 : Value}
    {f_law_cost : Addr} {od20 an20 : Option Addr} {sl20 : Array (Option Value)} {oc20 kV20 dc20 pm20 cd20 ct20 : Value}
    {f_law_front_good : Addr} {od21 an21 : Option Addr} {sl21 : Array (Option Value)} {oc21 kV21 dc21 pm21 cd21 ct21 : Value}
    {f_law_take : Addr} {od22 an22 : Option Addr} {sl22 : Array (Option Value)} {oc22 kV22 dc22 pm22 cd22 ct22 : Value}
    {f_law_read : Addr} {od23 an23 : Option Addr} {sl23 : Array (Option Value)} {oc23 kV23 dc23 pm23 cd23 ct23 : Value}
    {flaw : Addr} {od24 an24 : Option Addr} {sl24 : Array (Option Value)} {oc24 kV24 dc24 pm24 cd24 ct24 : Value}
    {fMailbox___init__ : Addr} {od25 an25 : Option Addr} {sl25 : Array (Option Value)} {oc25 kV25 dc25 pm25 cd25 ct25 : Value}
    {fMailbox_put : Addr} {od26 an26 : Option Addr} {sl26 : Array (Option Value)} {oc26 kV26 dc26 pm26 cd26 ct26 : Value}
    {fMailbox_cost : Addr} {od27 an27 : Option Addr} {sl27 : Array (Option Value)} {oc27 kV27 dc27 pm27 cd27 ct27 : Value}
    {fMailbox_take : Addr} {od28 an28 : Option Addr} {sl28 : Array (Option Value)} {oc28 kV28 dc28 pm28 cd28 ct28 : Value}
    {fMailbox_is_bad : Addr} {od29 an29 : Option Addr} {sl29 : Array (Option Value)} {oc29 kV29 dc29 pm29 cd29 ct29 : Value}
    {fMailbox_tell : Addr} {od30 an30 : Option Addr} {sl30 : Array (Option Value)} {oc30 kV30 dc30 pm30 cd30 ct30 : Value}
    {fMailbox_read : Addr} {od31 an31 : Option Addr} {sl31 : Array (Option Value)} {oc31 kV31 dc31 pm31 cd31 ct31 : Value}
    {fMailbox_is_slow : Addr} {od32 an32 : Option Addr} {sl32 : Array (Option Value)} {oc32 kV32 dc32 pm32 cd32 ct32 : Value}
    {fMailbox__front_size : Addr} {od33 an33 : Option Addr} {sl33 : Array (Option Value)} {oc33 kV33 dc33 pm33 cd33 ct33 : Value}
    {tGREATEST_NUMBER : Tok}
    {tLEAST_INT : Tok}
    {tGREATEST_INT : Tok}
    {tLONGEST_TEXT : Tok}
    {tMOST_OCTETS : Tok}
    {t_FIRST_CODE : Tok}
    {t_LAST_CODE : Tok}
    {t_PERCENT_CODE : Tok}
    {tHEADER_SIZE : Tok}
    {tGREATEST_SIZE : Tok}
    {tGREATEST_OPCODE : Tok}
    {tMOST_ARGUMENTS : Tok}
    {tMOST_QUEUED : Tok}
    {tMOST_UNREAD : Tok}
    {tMOST_UNREAD_OCTETS : Tok}
    {tOCTETS_FOR_A_UNIT : Tok}
    {CMailbox : Addr}
    {CBadMessage : Addr}
    {CMessageTooLong : Addr}
    (a1 : PySem.W.nsIn K mainGlobals "is_integer" = some (some (.ref fis_integer)))
    (l1 : K.lookup fis_integer = some ⟨oc1, od1, .func (PySem.W.fnOf "is_integer" "is_integer" (defArgs s_is_integer) (defBody s_is_integer) (defScope s_is_integer) .none kV1 dc1 pm1 an1 cd1 ct1), sl1⟩) (c1 : PySem.W.codeIn K cd1 "is_integer" = true) (k1 : PySem.W.keepIn K (.ref fis_integer) = true)
    (a2 : PySem.W.nsIn K mainGlobals "is_text" = some (some (.ref fis_text)))
    (l2 : K.lookup fis_text = some ⟨oc2, od2, .func (PySem.W.fnOf "is_text" "is_text" (defArgs s_is_text) (defBody s_is_text) (defScope s_is_text) .none kV2 dc2 pm2 an2 cd2 ct2), sl2⟩) (c2 : PySem.W.codeIn K cd2 "is_text" = true) (k2 : PySem.W.keepIn K (.ref fis_text) = true)
    (a3 : PySem.W.nsIn K mainGlobals "number_octets" = some (some (.ref fnumber_octets)))
    (l3 : K.lookup fnumber_octets = some ⟨oc3, od3, .func (PySem.W.fnOf "number_octets" "number_octets" (defArgs s_number_octets) (defBody s_number_octets) (defScope s_number_octets) .none kV3 dc3 pm3 an3 cd3 ct3), sl3⟩) (c3 : PySem.W.codeIn K cd3 "number_octets" = true) (k3 : PySem.W.keepIn K (.ref fnumber_octets) = true)
    (a4 : PySem.W.nsIn K mainGlobals "number_at" = some (some (.ref fnumber_at)))
    (l4 : K.lookup fnumber_at = some ⟨oc4, od4, .func (PySem.W.fnOf "number_at" "number_at" (defArgs s_number_at) (defBody s_number_at) (defScope s_number_at) .none kV4 dc4 pm4 an4 cd4 ct4), sl4⟩) (c4 : PySem.W.codeIn K cd4 "number_at" = true) (k4 : PySem.W.keepIn K (.ref fnumber_at) = true)
    (a5 : PySem.W.nsIn K mainGlobals "field_octets" = some (some (.ref ffield_octets)))
    (l5 : K.lookup ffield_octets = some ⟨oc5, od5, .func (PySem.W.fnOf "field_octets" "field_octets" (defArgs s_field_octets) (defBody s_field_octets) (defScope s_field_octets) .none kV5 dc5 pm5 an5 cd5 ct5), sl5⟩) (c5 : PySem.W.codeIn K cd5 "field_octets" = true) (k5 : PySem.W.keepIn K (.ref ffield_octets) = true)
    (a6 : PySem.W.nsIn K mainGlobals "_is_code" = some (some (.ref f_is_code)))
    (l6 : K.lookup f_is_code = some ⟨oc6, od6, .func (PySem.W.fnOf "_is_code" "_is_code" (defArgs s__is_code) (defBody s__is_code) (defScope s__is_code) .none kV6 dc6 pm6 an6 cd6 ct6), sl6⟩) (c6 : PySem.W.codeIn K cd6 "_is_code" = true) (k6 : PySem.W.keepIn K (.ref f_is_code) = true)
    (a7 : PySem.W.nsIn K mainGlobals "_is_of" = some (some (.ref f_is_of)))
    (l7 : K.lookup f_is_of = some ⟨oc7, od7, .func (PySem.W.fnOf "_is_of" "_is_of" (defArgs s__is_of) (defBody s__is_of) (defScope s__is_of) .none kV7 dc7 pm7 an7 cd7 ct7), sl7⟩) (c7 : PySem.W.codeIn K cd7 "_is_of" = true) (k7 : PySem.W.keepIn K (.ref f_is_of) = true)
    (a8 : PySem.W.nsIn K mainGlobals "_are_octets" = some (some (.ref f_are_octets)))
    (l8 : K.lookup f_are_octets = some ⟨oc8, od8, .func (PySem.W.fnOf "_are_octets" "_are_octets" (defArgs s__are_octets) (defBody s__are_octets) (defScope s__are_octets) .none kV8 dc8 pm8 an8 cd8 ct8), sl8⟩) (c8 : PySem.W.codeIn K cd8 "_are_octets" = true) (k8 : PySem.W.keepIn K (.ref f_are_octets) = true)
    (a9 : PySem.W.nsIn K mainGlobals "_is_bound" = some (some (.ref f_is_bound)))
    (l9 : K.lookup f_is_bound = some ⟨oc9, od9, .func (PySem.W.fnOf "_is_bound" "_is_bound" (defArgs s__is_bound) (defBody s__is_bound) (defScope s__is_bound) .none kV9 dc9 pm9 an9 cd9 ct9), sl9⟩) (c9 : PySem.W.codeIn K cd9 "_is_bound" = true) (k9 : PySem.W.keepIn K (.ref f_is_bound) = true)
    (a10 : PySem.W.nsIn K mainGlobals "_text_octets" = some (some (.ref f_text_octets)))
    (l10 : K.lookup f_text_octets = some ⟨oc10, od10, .func (PySem.W.fnOf "_text_octets" "_text_octets" (defArgs s__text_octets) (defBody s__text_octets) (defScope s__text_octets) .none kV10 dc10 pm10 an10 cd10 ct10), sl10⟩) (c10 : PySem.W.codeIn K cd10 "_text_octets" = true) (k10 : PySem.W.keepIn K (.ref f_text_octets) = true)
    (a11 : PySem.W.nsIn K mainGlobals "_padded" = some (some (.ref f_padded)))
    (l11 : K.lookup f_padded = some ⟨oc11, od11, .func (PySem.W.fnOf "_padded" "_padded" (defArgs s__padded) (defBody s__padded) (defScope s__padded) .none kV11 dc11 pm11 an11 cd11 ct11), sl11⟩) (c11 : PySem.W.codeIn K cd11 "_padded" = true) (k11 : PySem.W.keepIn K (.ref f_padded) = true)
    (a12 : PySem.W.nsIn K mainGlobals "encode_message" = some (some (.ref fencode_message)))
    (l12 : K.lookup fencode_message = some ⟨oc12, od12, .func (PySem.W.fnOf "encode_message" "encode_message" (defArgs s_encode_message) (defBody s_encode_message) (defScope s_encode_message) .none kV12 dc12 pm12 an12 cd12 ct12), sl12⟩) (c12 : PySem.W.codeIn K cd12 "encode_message" = true) (k12 : PySem.W.keepIn K (.ref fencode_message) = true)
    (a13 : PySem.W.nsIn K mainGlobals "cut_messages" = some (some (.ref fcut_messages)))
    (l13 : K.lookup fcut_messages = some ⟨oc13, od13, .func (PySem.W.fnOf "cut_messages" "cut_messages" (defArgs s_cut_messages) (defBody s_cut_messages) (defScope s_cut_messages) .none kV13 dc13 pm13 an13 cd13 ct13), sl13⟩) (c13 : PySem.W.codeIn K cd13 "cut_messages" = true) (k13 : PySem.W.keepIn K (.ref fcut_messages) = true)
    (a14 : PySem.W.nsIn K mainGlobals "is_message_size" = some (some (.ref fis_message_size)))
    (l14 : K.lookup fis_message_size = some ⟨oc14, od14, .func (PySem.W.fnOf "is_message_size" "is_message_size" (defArgs s_is_message_size) (defBody s_is_message_size) (defScope s_is_message_size) .none kV14 dc14 pm14 an14 cd14 ct14), sl14⟩) (c14 : PySem.W.codeIn K cd14 "is_message_size" = true) (k14 : PySem.W.keepIn K (.ref fis_message_size) = true)
    (a15 : PySem.W.nsIn K mainGlobals "_cut" = some (some (.ref f_cut)))
    (l15 : K.lookup f_cut = some ⟨oc15, od15, .func (PySem.W.fnOf "_cut" "_cut" (defArgs s__cut) (defBody s__cut) (defScope s__cut) .none kV15 dc15 pm15 an15 cd15 ct15), sl15⟩) (c15 : PySem.W.codeIn K cd15 "_cut" = true) (k15 : PySem.W.keepIn K (.ref f_cut) = true)
    (a16 : PySem.W.nsIn K mainGlobals "_law_cell" = some (some (.ref f_law_cell)))
    (l16 : K.lookup f_law_cell = some ⟨oc16, od16, .func (PySem.W.fnOf "_law_cell" "_law_cell" (defArgs s__law_cell) (defBody s__law_cell) (defScope s__law_cell) .none kV16 dc16 pm16 an16 cd16 ct16), sl16⟩) (c16 : PySem.W.codeIn K cd16 "_law_cell" = true) (k16 : PySem.W.keepIn K (.ref f_law_cell) = true)
    (a17 : PySem.W.nsIn K mainGlobals "_law_row" = some (some (.ref f_law_row)))
    (l17 : K.lookup f_law_row = some ⟨oc17, od17, .func (PySem.W.fnOf "_law_row" "_law_row" (defArgs s__law_row) (defBody s__law_row) (defScope s__law_row) .none kV17 dc17 pm17 an17 cd17 ct17), sl17⟩) (c17 : PySem.W.codeIn K cd17 "_law_row" = true) (k17 : PySem.W.keepIn K (.ref f_law_row) = true)
    (a18 : PySem.W.nsIn K mainGlobals "_law_message" = some (some (.ref f_law_message)))
    (l18 : K.lookup f_law_message = some ⟨oc18, od18, .func (PySem.W.fnOf "_law_message" "_law_message" (defArgs s__law_message) (defBody s__law_message) (defScope s__law_message) .none kV18 dc18 pm18 an18 cd18 ct18), sl18⟩) (c18 : PySem.W.codeIn K cd18 "_law_message" = true) (k18 : PySem.W.keepIn K (.ref f_law_message) = true)
    (a19 : PySem.W.nsIn K mainGlobals "_law_stream" = some (some (.ref f_law_stream)))
    (l19 : K.lookup f_law_stream = some ⟨oc19, od19, .func (PySem.W.fnOf "_law_stream" "_law_stream" (defArgs s__law_stream) (defBody s__law_stream) (defScope s__law_stream) .none kV19 dc19 pm19 an19 cd19 ct19), sl19⟩) (c19 : PySem.W.codeIn K cd19 "_law_stream" = true) (k19 : PySem.W.keepIn K (.ref f_law_stream) = true)
    (a20 : PySem.W.nsIn K mainGlobals "_law_cost" = some (some (.ref f_law_cost)))
    (l20 : K.lookup f_law_cost = some ⟨oc20, od20, .func (PySem.W.fnOf "_law_cost" "_law_cost" (defArgs s__law_cost) (defBody s__law_cost) (defScope s__law_cost) .none kV20 dc20 pm20 an20 cd20 ct20), sl20⟩) (c20 : PySem.W.codeIn K cd20 "_law_cost" = true) (k20 : PySem.W.keepIn K (.ref f_law_cost) = true)
    (a21 : PySem.W.nsIn K mainGlobals "_law_front_good" = some (some (.ref f_law_front_good)))
    (l21 : K.lookup f_law_front_good = some ⟨oc21, od21, .func (PySem.W.fnOf "_law_front_good" "_law_front_good" (defArgs s__law_front_good) (defBody s__law_front_good) (defScope s__law_front_good) .none kV21 dc21 pm21 an21 cd21 ct21), sl21⟩) (c21 : PySem.W.codeIn K cd21 "_law_front_good" = true) (k21 : PySem.W.keepIn K (.ref f_law_front_good) = true)
    (a22 : PySem.W.nsIn K mainGlobals "_law_take" = some (some (.ref f_law_take)))
    (l22 : K.lookup f_law_take = some ⟨oc22, od22, .func (PySem.W.fnOf "_law_take" "_law_take" (defArgs s__law_take) (defBody s__law_take) (defScope s__law_take) .none kV22 dc22 pm22 an22 cd22 ct22), sl22⟩) (c22 : PySem.W.codeIn K cd22 "_law_take" = true) (k22 : PySem.W.keepIn K (.ref f_law_take) = true)
    (a23 : PySem.W.nsIn K mainGlobals "_law_read" = some (some (.ref f_law_read)))
    (l23 : K.lookup f_law_read = some ⟨oc23, od23, .func (PySem.W.fnOf "_law_read" "_law_read" (defArgs s__law_read) (defBody s__law_read) (defScope s__law_read) .none kV23 dc23 pm23 an23 cd23 ct23), sl23⟩) (c23 : PySem.W.codeIn K cd23 "_law_read" = true) (k23 : PySem.W.keepIn K (.ref f_law_read) = true)
    (a24 : PySem.W.nsIn K mainGlobals "law" = some (some (.ref flaw)))
    (l24 : K.lookup flaw = some ⟨oc24, od24, .func (PySem.W.fnOf "law" "law" (defArgs s_law) (defBody s_law) (defScope s_law) .none kV24 dc24 pm24 an24 cd24 ct24), sl24⟩) (c24 : PySem.W.codeIn K cd24 "law" = true) (k24 : PySem.W.keepIn K (.ref flaw) = true)
    (a25 : PySem.W.findIn K (.ref CMailbox) "__init__" = some (some (.ref fMailbox___init__)))
    (i25 : PySem.W.isFn K (.ref fMailbox___init__) = true)
    (l25 : K.lookup fMailbox___init__ = some ⟨oc25, od25, .func (PySem.W.fnOf "__init__" "Mailbox.__init__" (defArgs s_Mailbox___init__) (defBody s_Mailbox___init__) (defScope s_Mailbox___init__) .none kV25 dc25 pm25 an25 cd25 ct25), sl25⟩) (c25 : PySem.W.codeIn K cd25 "Mailbox.__init__" = true) (k25 : PySem.W.keepIn K (.ref fMailbox___init__) = true)
    (a26 : PySem.W.findIn K (.ref CMailbox) "put" = some (some (.ref fMailbox_put)))
    (i26 : PySem.W.isFn K (.ref fMailbox_put) = true)
    (l26 : K.lookup fMailbox_put = some ⟨oc26, od26, .func (PySem.W.fnOf "put" "Mailbox.put" (defArgs s_Mailbox_put) (defBody s_Mailbox_put) (defScope s_Mailbox_put) .none kV26 dc26 pm26 an26 cd26 ct26), sl26⟩) (c26 : PySem.W.codeIn K cd26 "Mailbox.put" = true) (k26 : PySem.W.keepIn K (.ref fMailbox_put) = true)
    (a27 : PySem.W.findIn K (.ref CMailbox) "cost" = some (some (.ref fMailbox_cost)))
    (i27 : PySem.W.isFn K (.ref fMailbox_cost) = true)
    (l27 : K.lookup fMailbox_cost = some ⟨oc27, od27, .func (PySem.W.fnOf "cost" "Mailbox.cost" (defArgs s_Mailbox_cost) (defBody s_Mailbox_cost) (defScope s_Mailbox_cost) .none kV27 dc27 pm27 an27 cd27 ct27), sl27⟩) (c27 : PySem.W.codeIn K cd27 "Mailbox.cost" = true) (k27 : PySem.W.keepIn K (.ref fMailbox_cost) = true)
    (a28 : PySem.W.findIn K (.ref CMailbox) "take" = some (some (.ref fMailbox_take)))
    (i28 : PySem.W.isFn K (.ref fMailbox_take) = true)
    (l28 : K.lookup fMailbox_take = some ⟨oc28, od28, .func (PySem.W.fnOf "take" "Mailbox.take" (defArgs s_Mailbox_take) (defBody s_Mailbox_take) (defScope s_Mailbox_take) .none kV28 dc28 pm28 an28 cd28 ct28), sl28⟩) (c28 : PySem.W.codeIn K cd28 "Mailbox.take" = true) (k28 : PySem.W.keepIn K (.ref fMailbox_take) = true)
    (a29 : PySem.W.findIn K (.ref CMailbox) "is_bad" = some (some (.ref fMailbox_is_bad)))
    (i29 : PySem.W.isFn K (.ref fMailbox_is_bad) = true)
    (l29 : K.lookup fMailbox_is_bad = some ⟨oc29, od29, .func (PySem.W.fnOf "is_bad" "Mailbox.is_bad" (defArgs s_Mailbox_is_bad) (defBody s_Mailbox_is_bad) (defScope s_Mailbox_is_bad) .none kV29 dc29 pm29 an29 cd29 ct29), sl29⟩) (c29 : PySem.W.codeIn K cd29 "Mailbox.is_bad" = true) (k29 : PySem.W.keepIn K (.ref fMailbox_is_bad) = true)
    (a30 : PySem.W.findIn K (.ref CMailbox) "tell" = some (some (.ref fMailbox_tell)))
    (i30 : PySem.W.isFn K (.ref fMailbox_tell) = true)
    (l30 : K.lookup fMailbox_tell = some ⟨oc30, od30, .func (PySem.W.fnOf "tell" "Mailbox.tell" (defArgs s_Mailbox_tell) (defBody s_Mailbox_tell) (defScope s_Mailbox_tell) .none kV30 dc30 pm30 an30 cd30 ct30), sl30⟩) (c30 : PySem.W.codeIn K cd30 "Mailbox.tell" = true) (k30 : PySem.W.keepIn K (.ref fMailbox_tell) = true)
    (a31 : PySem.W.findIn K (.ref CMailbox) "read" = some (some (.ref fMailbox_read)))
    (i31 : PySem.W.isFn K (.ref fMailbox_read) = true)
    (l31 : K.lookup fMailbox_read = some ⟨oc31, od31, .func (PySem.W.fnOf "read" "Mailbox.read" (defArgs s_Mailbox_read) (defBody s_Mailbox_read) (defScope s_Mailbox_read) .none kV31 dc31 pm31 an31 cd31 ct31), sl31⟩) (c31 : PySem.W.codeIn K cd31 "Mailbox.read" = true) (k31 : PySem.W.keepIn K (.ref fMailbox_read) = true)
    (a32 : PySem.W.findIn K (.ref CMailbox) "is_slow" = some (some (.ref fMailbox_is_slow)))
    (i32 : PySem.W.isFn K (.ref fMailbox_is_slow) = true)
    (l32 : K.lookup fMailbox_is_slow = some ⟨oc32, od32, .func (PySem.W.fnOf "is_slow" "Mailbox.is_slow" (defArgs s_Mailbox_is_slow) (defBody s_Mailbox_is_slow) (defScope s_Mailbox_is_slow) .none kV32 dc32 pm32 an32 cd32 ct32), sl32⟩) (c32 : PySem.W.codeIn K cd32 "Mailbox.is_slow" = true) (k32 : PySem.W.keepIn K (.ref fMailbox_is_slow) = true)
    (a33 : PySem.W.findIn K (.ref CMailbox) "_front_size" = some (some (.ref fMailbox__front_size)))
    (i33 : PySem.W.isFn K (.ref fMailbox__front_size) = true)
    (l33 : K.lookup fMailbox__front_size = some ⟨oc33, od33, .func (PySem.W.fnOf "_front_size" "Mailbox._front_size" (defArgs s_Mailbox__front_size) (defBody s_Mailbox__front_size) (defScope s_Mailbox__front_size) .none kV33 dc33 pm33 an33 cd33 ct33), sl33⟩) (c33 : PySem.W.codeIn K cd33 "Mailbox._front_size" = true) (k33 : PySem.W.keepIn K (.ref fMailbox__front_size) = true)
    (z_all : PySem.W.nsIn K mainGlobals "all" = some none)
    (z_bool : PySem.W.nsIn K mainGlobals "bool" = some none)
    (z_int : PySem.W.nsIn K mainGlobals "int" = some none)
    (z_isinstance : PySem.W.nsIn K mainGlobals "isinstance" = some none)
    (z_len : PySem.W.nsIn K mainGlobals "len" = some none)
    (z_list : PySem.W.nsIn K mainGlobals "list" = some none)
    (z_min : PySem.W.nsIn K mainGlobals "min" = some none)
    (z_ord : PySem.W.nsIn K mainGlobals "ord" = some none)
    (z_range : PySem.W.nsIn K mainGlobals "range" = some none)
    (z_str : PySem.W.nsIn K mainGlobals "str" = some none)
    (z_sum : PySem.W.nsIn K mainGlobals "sum" = some none)
    (z_tuple : PySem.W.nsIn K mainGlobals "tuple" = some none)
    (q_GREATEST_NUMBER : PySem.W.nsIn K mainGlobals "GREATEST_NUMBER" = some (some (.int (4294967295) tGREATEST_NUMBER)))
    (q_LEAST_INT : PySem.W.nsIn K mainGlobals "LEAST_INT" = some (some (.int (-2147483648) tLEAST_INT)))
    (q_GREATEST_INT : PySem.W.nsIn K mainGlobals "GREATEST_INT" = some (some (.int (2147483647) tGREATEST_INT)))
    (q_LONGEST_TEXT : PySem.W.nsIn K mainGlobals "LONGEST_TEXT" = some (some (.int (1000) tLONGEST_TEXT)))
    (q_MOST_OCTETS : PySem.W.nsIn K mainGlobals "MOST_OCTETS" = some (some (.int (16384) tMOST_OCTETS)))
    (q__FIRST_CODE : PySem.W.nsIn K mainGlobals "_FIRST_CODE" = some (some (.int (32) t_FIRST_CODE)))
    (q__LAST_CODE : PySem.W.nsIn K mainGlobals "_LAST_CODE" = some (some (.int (126) t_LAST_CODE)))
    (q__PERCENT_CODE : PySem.W.nsIn K mainGlobals "_PERCENT_CODE" = some (some (.int (37) t_PERCENT_CODE)))
    (q_HEADER_SIZE : PySem.W.nsIn K mainGlobals "HEADER_SIZE" = some (some (.int (8) tHEADER_SIZE)))
    (q_GREATEST_SIZE : PySem.W.nsIn K mainGlobals "GREATEST_SIZE" = some (some (.int (20480) tGREATEST_SIZE)))
    (q_GREATEST_OPCODE : PySem.W.nsIn K mainGlobals "GREATEST_OPCODE" = some (some (.int (65535) tGREATEST_OPCODE)))
    (q_MOST_ARGUMENTS : PySem.W.nsIn K mainGlobals "MOST_ARGUMENTS" = some (some (.int (20) tMOST_ARGUMENTS)))
    (q_MOST_QUEUED : PySem.W.nsIn K mainGlobals "MOST_QUEUED" = some (some (.int (16384) tMOST_QUEUED)))
    (q_MOST_UNREAD : PySem.W.nsIn K mainGlobals "MOST_UNREAD" = some (some (.int (1024) tMOST_UNREAD)))
    (q_MOST_UNREAD_OCTETS : PySem.W.nsIn K mainGlobals "MOST_UNREAD_OCTETS" = some (some (.int (65536) tMOST_UNREAD_OCTETS)))
    (q_OCTETS_FOR_A_UNIT : PySem.W.nsIn K mainGlobals "OCTETS_FOR_A_UNIT" = some (some (.int (256) tOCTETS_FOR_A_UNIT)))
    (uMailbox : PySem.W.nsIn K mainGlobals "Mailbox" = some (some (.ref CMailbox)))
    (pgMailbox : PySem.W.plainGet K CMailbox Str.empty = true) (hdMailbox : PySem.W.hasDictIn K CMailbox = true) (poMailbox : PySem.W.plainOver K CMailbox = true) (saMailbox : PySem.W.findIn K (.ref CMailbox) "__setattr__" = some (some (.builtin "object.__setattr__"))) (mkMailbox : PySem.W.makesIn K CMailbox = true) (kcMailbox : PySem.W.keepIn K (.ref CMailbox) = true)
    (nMailbox__queue : PySem.W.findIn K (.ref CMailbox) "_queue" = some none)
    (nMailbox__unread : PySem.W.findIn K (.ref CMailbox) "_unread" = some none)
    (nMailbox__unread_octets : PySem.W.findIn K (.ref CMailbox) "_unread_octets" = some none)
    (uBadMessage : PySem.W.nsIn K mainGlobals "BadMessage" = some (some (.ref CBadMessage))) (xBadMessage : PySem.W.excIn K CBadMessage [.type "ValueError", .type "Exception", .type "BaseException", .type "object"] "ValueError.__new__" = true) (keBadMessage : PySem.W.keepIn K (.ref CBadMessage) = true) (bxBadMessage : PySem.W.subIn K (.ref CBadMessage) (.type "BaseException") = some true) (txBadMessage : PySem.W.typeIn K (.ref CBadMessage) = some (.type "type")) (ixBadMessage : PySem.W.isClsIn K CBadMessage = true) (sxBadMessage : PySem.W.subIn K (.ref CBadMessage) (.ref CBadMessage) = some true)
    (uMessageTooLong : PySem.W.nsIn K mainGlobals "MessageTooLong" = some (some (.ref CMessageTooLong))) (xMessageTooLong : PySem.W.excIn K CMessageTooLong [.type "ValueError", .type "Exception", .type "BaseException", .type "object"] "ValueError.__new__" = true) (keMessageTooLong : PySem.W.keepIn K (.ref CMessageTooLong) = true) (bxMessageTooLong : PySem.W.subIn K (.ref CMessageTooLong) (.type "BaseException") = some true) (txMessageTooLong : PySem.W.typeIn K (.ref CMessageTooLong) = some (.type "type")) (ixMessageTooLong : PySem.W.isClsIn K CMessageTooLong = true) (sxMessageTooLong : PySem.W.subIn K (.ref CMessageTooLong) (.ref CMessageTooLong) = some true)
    : ∃ A : Adr, A.flaw = fa ∧ Txt K mg A ∧ (∀ (s : Shared) (v : Value), BindsTo s A.dlaw ⟨[v], []⟩ [("script", v)]) := by
  have e := hfa.symm.trans (PySem.W.mg_of X G a24)
  cases e
  have F1 := fun_mk (st := s_is_integer) l1 c1 k1
  have b1 := F1.binds (ps := ["value", "least", "greatest"]) fun _ _ _ _ _ _ us hl => match us, hl with | [_, _, _], _ => rfl
  have F2 := fun_mk (st := s_is_text) l2 c2 k2
  have b2 := F2.binds (ps := ["value"]) fun _ _ _ _ _ _ us hl => match us, hl with | [_], _ => rfl
  have F3 := fun_mk (st := s_number_octets) l3 c3 k3
  have b3 := F3.binds (ps := ["number", "count"]) fun _ _ _ _ _ _ us hl => match us, hl with | [_, _], _ => rfl
  have F4 := fun_mk (st := s_number_at) l4 c4 k4
  have b4 := F4.binds (ps := ["octets", "at", "count"]) fun _ _ _ _ _ _ us hl => match us, hl with | [_, _, _], _ => rfl
  have F5 := fun_mk (st := s_field_octets) l5 c5 k5
  have b5 := F5.binds (ps := ["kind", "value"]) fun _ _ _ _ _ _ us hl => match us, hl with | [_, _], _ => rfl
  have F6 := fun_mk (st := s__is_code) l6 c6 k6
  have b6 := F6.binds (ps := ["code"]) fun _ _ _ _ _ _ us hl => match us, hl with | [_], _ => rfl
  have F7 := fun_mk (st := s__is_of) l7 c7 k7
  have b7 := F7.binds (ps := ["kind", "value"]) fun _ _ _ _ _ _ us hl => match us, hl with | [_, _], _ => rfl
  have F8 := fun_mk (st := s__are_octets) l8 c8 k8
  have b8 := F8.binds (ps := ["value"]) fun _ _ _ _ _ _ us hl => match us, hl with | [_], _ => rfl
  have F9 := fun_mk (st := s__is_bound) l9 c9 k9
  have b9 := F9.binds (ps := ["value"]) fun _ _ _ _ _ _ us hl => match us, hl with | [_], _ => rfl
  have F10 := fun_mk (st := s__text_octets) l10 c10 k10
  have b10 := F10.binds (ps := ["text"]) fun _ _ _ _ _ _ us hl => match us, hl with | [_], _ => rfl
  have F11 := fun_mk (st := s__padded) l11 c11 k11
  have b11 := F11.binds (ps := ["octets"]) fun _ _ _ _ _ _ us hl => match us, hl with | [_], _ => rfl
  have F12 := fun_mk (st := s_encode_message) l12 c12 k12
  have b12 := F12.binds (ps := ["number", "opcode", "arguments"]) fun _ _ _ _ _ _ us hl => match us, hl with | [_, _, _], _ => rfl
  have F13 := fun_mk (st := s_cut_messages) l13 c13 k13
  have b13 := F13.binds (ps := ["octets"]) fun _ _ _ _ _ _ us hl => match us, hl with | [_], _ => rfl
  have F14 := fun_mk (st := s_is_message_size) l14 c14 k14
  have b14 := F14.binds (ps := ["size"]) fun _ _ _ _ _ _ us hl => match us, hl with | [_], _ => rfl
  have F15 := fun_mk (st := s__cut) l15 c15 k15
  have b15 := F15.binds (ps := ["octets"]) fun _ _ _ _ _ _ us hl => match us, hl with | [_], _ => rfl
  have F16 := fun_mk (st := s__law_cell) l16 c16 k16
  have b16 := F16.binds (ps := ["script", "k"]) fun _ _ _ _ _ _ us hl => match us, hl with | [_, _], _ => rfl
  have F17 := fun_mk (st := s__law_row) l17 c17 k17
  have b17 := F17.binds (ps := ["script", "k"]) fun _ _ _ _ _ _ us hl => match us, hl with | [_, _], _ => rfl
  have F18 := fun_mk (st := s__law_message) l18 c18 k18
  have b18 := F18.binds (ps := ["row"]) fun _ _ _ _ _ _ us hl => match us, hl with | [_], _ => rfl
  have F19 := fun_mk (st := s__law_stream) l19 c19 k19
  have b19 := F19.binds (ps := ["script"]) fun _ _ _ _ _ _ us hl => match us, hl with | [_], _ => rfl
  have F20 := fun_mk (st := s__law_cost) l20 c20 k20
  have b20 := F20.binds (ps := ["message"]) fun _ _ _ _ _ _ us hl => match us, hl with | [_], _ => rfl
  have F21 := fun_mk (st := s__law_front_good) l21 c21 k21
  have b21 := F21.binds (ps := ["mail", "octets"]) fun _ _ _ _ _ _ us hl => match us, hl with | [_, _], _ => rfl
  have F22 := fun_mk (st := s__law_take) l22 c22 k22
  have b22 := F22.binds (ps := ["mail", "queue"]) fun _ _ _ _ _ _ us hl => match us, hl with | [_, _], _ => rfl
  have F23 := fun_mk (st := s__law_read) l23 c23 k23
  have b23 := F23.binds (ps := ["mail", "unread", "most"]) fun _ _ _ _ _ _ us hl => match us, hl with | [_, _, _], _ => rfl
  have F24 := fun_mk (st := s_law) l24 c24 k24
  have b24 := F24.binds (ps := ["script"]) fun _ _ _ _ _ _ us hl => match us, hl with | [_], _ => rfl
  have F25 := fun_mk (st := s_Mailbox___init__) l25 c25 k25
  have b25 := F25.binds (ps := ["self"]) fun _ _ _ _ _ _ us hl => match us, hl with | [_], _ => rfl
  have F26 := fun_mk (st := s_Mailbox_put) l26 c26 k26
  have b26 := F26.binds (ps := ["self", "octets"]) fun _ _ _ _ _ _ us hl => match us, hl with | [_, _], _ => rfl
  have F27 := fun_mk (st := s_Mailbox_cost) l27 c27 k27
  have b27 := F27.binds (ps := ["self"]) fun _ _ _ _ _ _ us hl => match us, hl with | [_], _ => rfl
  have F28 := fun_mk (st := s_Mailbox_take) l28 c28 k28
  have b28 := F28.binds (ps := ["self"]) fun _ _ _ _ _ _ us hl => match us, hl with | [_], _ => rfl
  have F29 := fun_mk (st := s_Mailbox_is_bad) l29 c29 k29
  have b29 := F29.binds (ps := ["self"]) fun _ _ _ _ _ _ us hl => match us, hl with | [_], _ => rfl
  have F30 := fun_mk (st := s_Mailbox_tell) l30 c30 k30
  have b30 := F30.binds (ps := ["self", "octets"]) fun _ _ _ _ _ _ us hl => match us, hl with | [_, _], _ => rfl
  have F31 := fun_mk (st := s_Mailbox_read) l31 c31 k31
  have b31 := F31.binds (ps := ["self", "most"]) fun _ _ _ _ _ _ us hl => match us, hl with | [_, _], _ => rfl
  have F32 := fun_mk (st := s_Mailbox_is_slow) l32 c32 k32
  have b32 := F32.binds (ps := ["self"]) fun _ _ _ _ _ _ us hl => match us, hl with | [_], _ => rfl
  have F33 := fun_mk (st := s_Mailbox__front_size) l33 c33 k33
  have b33 := F33.binds (ps := ["self"]) fun _ _ _ _ _ _ us hl => match us, hl with | [_], _ => rfl
  refine ⟨{ fis_integer := fis_integer, dis_integer := (PySem.W.fnOf "is_integer" "is_integer" (defArgs s_is_integer) (defBody s_is_integer) (defScope s_is_integer) .none kV1 dc1 pm1 an1 cd1 ct1), fis_text := fis_text, dis_text := (PySem.W.fnOf "is_text" "is_text" (defArgs s_is_text) (defBody s_is_text) (defScope s_is_text) .none kV2 dc2 pm2 an2 cd2 ct2), fnumber_octets := fnumber_octets, dnumber_octets := (PySem.W.fnOf "number_octets" "number_octets" (defArgs s_number_octets) (defBody s_number_octets) (defScope s_number_octets) .none kV3 dc3 pm3 an3 cd3 ct3), fnumber_at := fnumber_at, dnumber_at := (PySem.W.fnOf "number_at" "number_at" (defArgs s_number_at) (defBody s_number_at) (defScope s_number_at) .none kV4 dc4 pm4 an4 cd4 ct4), ffield_octets := ffield_octets, dfield_octets := (PySem.W.fnOf "field_octets" "field_octets" (defArgs s_field_octets) (defBody s_field_octets) (defScope s_field_octets) .none kV5 dc5 pm5 an5 cd5 ct5), f_is_code := f_is_code, d_is_code := (PySem.W.fnOf "_is_code" "_is_code" (defArgs s__is_code) (defBody s__is_code) (defScope s__is_code) .none kV6 dc6 pm6 an6 cd6 ct6), f_is_of := f_is_of, d_is_of := (PySem.W.fnOf "_is_of" "_is_of" (defArgs s__is_of) (defBody s__is_of) (defScope s__is_of) .none kV7 dc7 pm7 an7 cd7 ct7), f_are_octets := f_are_octets, d_are_octets := (PySem.W.fnOf "_are_octets" "_are_octets" (defArgs s__are_octets) (defBody s__are_octets) (defScope s__are_octets) .none kV8 dc8 pm8 an8 cd8 ct8), f_is_bound := f_is_bound, d_is_bound := (PySem.W.fnOf "_is_bound" "_is_bound" (defArgs s__is_bound) (defBody s__is_bound) (defScope s__is_bound) .none kV9 dc9 pm9 an9 cd9 ct9), f_text_octets := f_text_octets, d_text_octets := (PySem.W.fnOf "_text_octets" "_text_octets" (defArgs s__text_octets) (defBody s__text_octets) (defScope s__text_octets) .none kV10 dc10 pm10 an10 cd10 ct10), f_padded := f_padded, d_padded := (PySem.W.fnOf "_padded" "_padded" (defArgs s__padded) (defBody s__padded) (defScope s__padded) .none kV11 dc11 pm11 an11 cd11 ct11), fencode_message := fencode_message, dencode_message := (PySem.W.fnOf "encode_message" "encode_message" (defArgs s_encode_message) (defBody s_encode_message) (defScope s_encode_message) .none kV12 dc12 pm12 an12 cd12 ct12), fcut_messages := fcut_messages, dcut_messages := (PySem.W.fnOf "cut_messages" "cut_messages" (defArgs s_cut_messages) (defBody s_cut_messages) (defScope s_cut_messages) .none kV13 dc13 pm13 an13 cd13 ct13), fis_message_size := fis_message_size, dis_message_size := (PySem.W.fnOf "is_message_size" "is_message_size" (defArgs s_is_message_size) (defBody s_is_message_size) (defScope s_is_message_size) .none kV14 dc14 pm14 an14 cd14 ct14), f_cut := f_cut, d_cut := (PySem.W.fnOf "_cut" "_cut" (defArgs s__cut) (defBody s__cut) (defScope s__cut) .none kV15 dc15 pm15 an15 cd15 ct15), f_law_cell := f_law_cell, d_law_cell := (PySem.W.fnOf "_law_cell" "_law_cell" (defArgs s__law_cell) (defBody s__law_cell) (defScope s__law_cell) .none kV16 dc16 pm16 an16 cd16 ct16), f_law_row := f_law_row, d_law_row := (PySem.W.fnOf "_law_row" "_law_row" (defArgs s__law_row) (defBody s__law_row) (defScope s__law_row) .none kV17 dc17 pm17 an17 cd17 ct17), f_law_message := f_law_message, d_law_message := (PySem.W.fnOf "_law_message" "_law_message" (defArgs s__law_message) (defBody s__law_message) (defScope s__law_message) .none kV18 dc18 pm18 an18 cd18 ct18), f_law_stream := f_law_stream, d_law_stream := (PySem.W.fnOf "_law_stream" "_law_stream" (defArgs s__law_stream) (defBody s__law_stream) (defScope s__law_stream) .none kV19 dc19 pm19 an19 cd19 ct19), f_law_cost := f_law_cost, d_law_cost := (PySem.W.fnOf "_law_cost" "_law_cost" (defArgs s__law_cost) (defBody s__law_cost) (defScope s__law_cost) .none kV20 dc20 pm20 an20 cd20 ct20), f_law_front_good := f_law_front_good, d_law_front_good := (PySem.W.fnOf "_law_front_good" "_law_front_good" (defArgs s__law_front_good) (defBody s__law_front_good) (defScope s__law_front_good) .none kV21 dc21 pm21 an21 cd21 ct21), f_law_take := f_law_take, d_law_take := (PySem.W.fnOf "_law_take" "_law_take" (defArgs s__law_take) (defBody s__law_take) (defScope s__law_take) .none kV22 dc22 pm22 an22 cd22 ct22), f_law_read := f_law_read, d_law_read := (PySem.W.fnOf "_law_read" "_law_read" (defArgs s__law_read) (defBody s__law_read) (defScope s__law_read) .none kV23 dc23 pm23 an23 cd23 ct23), flaw := fa, dlaw := (PySem.W.fnOf "law" "law" (defArgs s_law) (defBody s_law) (defScope s_law) .none kV24 dc24 pm24 an24 cd24 ct24), fMailbox___init__ := fMailbox___init__, dMailbox___init__ := (PySem.W.fnOf "__init__" "Mailbox.__init__" (defArgs s_Mailbox___init__) (defBody s_Mailbox___init__) (defScope s_Mailbox___init__) .none kV25 dc25 pm25 an25 cd25 ct25), fMailbox_put := fMailbox_put, dMailbox_put := (PySem.W.fnOf "put" "Mailbox.put" (defArgs s_Mailbox_put) (defBody s_Mailbox_put) (defScope s_Mailbox_put) .none kV26 dc26 pm26 an26 cd26 ct26), fMailbox_cost := fMailbox_cost, dMailbox_cost := (PySem.W.fnOf "cost" "Mailbox.cost" (defArgs s_Mailbox_cost) (defBody s_Mailbox_cost) (defScope s_Mailbox_cost) .none kV27 dc27 pm27 an27 cd27 ct27), fMailbox_take := fMailbox_take, dMailbox_take := (PySem.W.fnOf "take" "Mailbox.take" (defArgs s_Mailbox_take) (defBody s_Mailbox_take) (defScope s_Mailbox_take) .none kV28 dc28 pm28 an28 cd28 ct28), fMailbox_is_bad := fMailbox_is_bad, dMailbox_is_bad := (PySem.W.fnOf "is_bad" "Mailbox.is_bad" (defArgs s_Mailbox_is_bad) (defBody s_Mailbox_is_bad) (defScope s_Mailbox_is_bad) .none kV29 dc29 pm29 an29 cd29 ct29), fMailbox_tell := fMailbox_tell, dMailbox_tell := (PySem.W.fnOf "tell" "Mailbox.tell" (defArgs s_Mailbox_tell) (defBody s_Mailbox_tell) (defScope s_Mailbox_tell) .none kV30 dc30 pm30 an30 cd30 ct30), fMailbox_read := fMailbox_read, dMailbox_read := (PySem.W.fnOf "read" "Mailbox.read" (defArgs s_Mailbox_read) (defBody s_Mailbox_read) (defScope s_Mailbox_read) .none kV31 dc31 pm31 an31 cd31 ct31), fMailbox_is_slow := fMailbox_is_slow, dMailbox_is_slow := (PySem.W.fnOf "is_slow" "Mailbox.is_slow" (defArgs s_Mailbox_is_slow) (defBody s_Mailbox_is_slow) (defScope s_Mailbox_is_slow) .none kV32 dc32 pm32 an32 cd32 ct32), fMailbox__front_size := fMailbox__front_size, dMailbox__front_size := (PySem.W.fnOf "_front_size" "Mailbox._front_size" (defArgs s_Mailbox__front_size) (defBody s_Mailbox__front_size) (defScope s_Mailbox__front_size) .none kV33 dc33 pm33 an33 cd33 ct33), tGREATEST_NUMBER := tGREATEST_NUMBER, tLEAST_INT := tLEAST_INT, tGREATEST_INT := tGREATEST_INT, tLONGEST_TEXT := tLONGEST_TEXT, tMOST_OCTETS := tMOST_OCTETS, t_FIRST_CODE := t_FIRST_CODE, t_LAST_CODE := t_LAST_CODE, t_PERCENT_CODE := t_PERCENT_CODE, tHEADER_SIZE := tHEADER_SIZE, tGREATEST_SIZE := tGREATEST_SIZE, tGREATEST_OPCODE := tGREATEST_OPCODE, tMOST_ARGUMENTS := tMOST_ARGUMENTS, tMOST_QUEUED := tMOST_QUEUED, tMOST_UNREAD := tMOST_UNREAD, tMOST_UNREAD_OCTETS := tMOST_UNREAD_OCTETS, tOCTETS_FOR_A_UNIT := tOCTETS_FOR_A_UNIT, CMailbox := CMailbox, CBadMessage := CBadMessage, CMessageTooLong := CMessageTooLong }, rfl, { Fis_integer := F1, bis_integer := b1, gis_integer := PySem.W.mg_of X G a1, kis_integer := k1, Fis_text := F2, bis_text := b2, gis_text := PySem.W.mg_of X G a2, kis_text := k2, Fnumber_octets := F3, bnumber_octets := b3, gnumber_octets := PySem.W.mg_of X G a3, knumber_octets := k3, Fnumber_at := F4, bnumber_at := b4, gnumber_at := PySem.W.mg_of X G a4, knumber_at := k4, Ffield_octets := F5, bfield_octets := b5, gfield_octets := PySem.W.mg_of X G a5, kfield_octets := k5, F_is_code := F6, b_is_code := b6, g_is_code := PySem.W.mg_of X G a6, k_is_code := k6, F_is_of := F7, b_is_of := b7, g_is_of := PySem.W.mg_of X G a7, k_is_of := k7, F_are_octets := F8, b_are_octets := b8, g_are_octets := PySem.W.mg_of X G a8, k_are_octets := k8, F_is_bound := F9, b_is_bound := b9, g_is_bound := PySem.W.mg_of X G a9, k_is_bound := k9, F_text_octets := F10, b_text_octets := b10, g_text_octets := PySem.W.mg_of X G a10, k_text_octets := k10, F_padded := F11, b_padded := b11, g_padded := PySem.W.mg_of X G a11, k_padded := k11, Fencode_message := F12, bencode_message := b12, gencode_message := PySem.W.mg_of X G a12, kencode_message := k12, Fcut_messages := F13, bcut_messages := b13, gcut_messages := PySem.W.mg_of X G a13, kcut_messages := k13, Fis_message_size := F14, bis_message_size := b14, gis_message_size := PySem.W.mg_of X G a14, kis_message_size := k14, F_cut := F15, b_cut := b15, g_cut := PySem.W.mg_of X G a15, k_cut := k15, F_law_cell := F16, b_law_cell := b16, g_law_cell := PySem.W.mg_of X G a16, k_law_cell := k16, F_law_row := F17, b_law_row := b17, g_law_row := PySem.W.mg_of X G a17, k_law_row := k17, F_law_message := F18, b_law_message := b18, g_law_message := PySem.W.mg_of X G a18, k_law_message := k18, F_law_stream := F19, b_law_stream := b19, g_law_stream := PySem.W.mg_of X G a19, k_law_stream := k19, F_law_cost := F20, b_law_cost := b20, g_law_cost := PySem.W.mg_of X G a20, k_law_cost := k20, F_law_front_good := F21, b_law_front_good := b21, g_law_front_good := PySem.W.mg_of X G a21, k_law_front_good := k21, F_law_take := F22, b_law_take := b22, g_law_take := PySem.W.mg_of X G a22, k_law_take := k22, F_law_read := F23, b_law_read := b23, g_law_read := PySem.W.mg_of X G a23, k_law_read := k23, Flaw := F24, blaw := b24, glaw := PySem.W.mg_of X G a24, klaw := k24, FMailbox___init__ := F25, bMailbox___init__ := b25, MMailbox := ⟨mkMailbox, a25, i25, kcMailbox⟩, FMailbox_put := F26, bMailbox_put := b26, mMailbox_put := ⟨a26, i26, k26⟩, FMailbox_cost := F27, bMailbox_cost := b27, mMailbox_cost := ⟨a27, i27, k27⟩, FMailbox_take := F28, bMailbox_take := b28, mMailbox_take := ⟨a28, i28, k28⟩, FMailbox_is_bad := F29, bMailbox_is_bad := b29, mMailbox_is_bad := ⟨a29, i29, k29⟩, FMailbox_tell := F30, bMailbox_tell := b30, mMailbox_tell := ⟨a30, i30, k30⟩, FMailbox_read := F31, bMailbox_read := b31, mMailbox_read := ⟨a31, i31, k31⟩, FMailbox_is_slow := F32, bMailbox_is_slow := b32, mMailbox_is_slow := ⟨a32, i32, k32⟩, FMailbox__front_size := F33, bMailbox__front_size := b33, mMailbox__front_size := ⟨a33, i33, k33⟩, all := PySem.W.mg_none_of X G z_all, bool := PySem.W.mg_none_of X G z_bool, int := PySem.W.mg_none_of X G z_int, isinstance := PySem.W.mg_none_of X G z_isinstance, len := PySem.W.mg_none_of X G z_len, list := PySem.W.mg_none_of X G z_list, min := PySem.W.mg_none_of X G z_min, ord := PySem.W.mg_none_of X G z_ord, range := PySem.W.mg_none_of X G z_range, str := PySem.W.mg_none_of X G z_str, sum := PySem.W.mg_none_of X G z_sum, tuple := PySem.W.mg_none_of X G z_tuple, gGREATEST_NUMBER := PySem.W.mg_of X G q_GREATEST_NUMBER, gLEAST_INT := PySem.W.mg_of X G q_LEAST_INT, gGREATEST_INT := PySem.W.mg_of X G q_GREATEST_INT, gLONGEST_TEXT := PySem.W.mg_of X G q_LONGEST_TEXT, gMOST_OCTETS := PySem.W.mg_of X G q_MOST_OCTETS, g_FIRST_CODE := PySem.W.mg_of X G q__FIRST_CODE, g_LAST_CODE := PySem.W.mg_of X G q__LAST_CODE, g_PERCENT_CODE := PySem.W.mg_of X G q__PERCENT_CODE, gHEADER_SIZE := PySem.W.mg_of X G q_HEADER_SIZE, gGREATEST_SIZE := PySem.W.mg_of X G q_GREATEST_SIZE, gGREATEST_OPCODE := PySem.W.mg_of X G q_GREATEST_OPCODE, gMOST_ARGUMENTS := PySem.W.mg_of X G q_MOST_ARGUMENTS, gMOST_QUEUED := PySem.W.mg_of X G q_MOST_QUEUED, gMOST_UNREAD := PySem.W.mg_of X G q_MOST_UNREAD, gMOST_UNREAD_OCTETS := PySem.W.mg_of X G q_MOST_UNREAD_OCTETS, gOCTETS_FOR_A_UNIT := PySem.W.mg_of X G q_OCTETS_FOR_A_UNIT, clMailbox := ⟨pgMailbox, hdMailbox, poMailbox, saMailbox⟩, gMailbox := PySem.W.mg_of X G uMailbox, nMailbox__queue := nMailbox__queue, nMailbox__unread := nMailbox__unread, nMailbox__unread_octets := nMailbox__unread_octets, gBadMessage := PySem.W.mg_of X G uBadMessage, xBadMessage := xBadMessage, kBadMessage := keBadMessage, bxBadMessage := bxBadMessage, txBadMessage := txBadMessage, exBadMessage := exm_self bxBadMessage ixBadMessage txBadMessage sxBadMessage, gMessageTooLong := PySem.W.mg_of X G uMessageTooLong, xMessageTooLong := xMessageTooLong, kMessageTooLong := keMessageTooLong, bxMessageTooLong := bxMessageTooLong, txMessageTooLong := txMessageTooLong, exMessageTooLong := exm_self bxMessageTooLong ixMessageTooLong txMessageTooLong sxMessageTooLong }, fun s v => .of_eq rfl⟩
theorem walk {l : PySem.W.OpenLaw} {q : Program} {loose : List Str} {XP : (Str → Option Value) → Heap → Prop} {YP : World → Heap → Prop} {d : DefRec} {K : Params → PySem.W.Frag} (hn : l.most = some 63) (hdf : d.params.defaults = [])
    (hY : ∀ (w : World) (h : Heap), YP w h → (K w.params).In h)
    (F : ∀ (w : World) (mg : Str → Option Value) (fa : Addr) (h : Heap), (K w.params).In h → h.Ns mainGlobals mg → mg d.name = some (.ref fa) →
      ∃ A : Adr, A.flaw = fa ∧ Txt (K w.params) mg A ∧ (∀ (s : Shared) (v : Value), BindsTo s A.dlaw ⟨[v], []⟩ [("script", v)])) :
    PySem.W.WalkO q loose XP YP l.row.toRowW d [] (fun f vs => PySem.call f vs) :=
  L2.walk_of (n := 63) (k := 10) (x := "script") (CX := fun _ => CX0) (sp := fun w => sp_law (K w.params)) hn (by decide) hdf ⟨rfl, by decide, by decide⟩ hY (fun w mg fa h X G hfa => by
    obtain ⟨A, rfl, T, b⟩ := F w mg fa h X G hfa
    exact ⟨A.dlaw, b, fun base _ _ => ok_law T⟩) (fun _ _ a ns hl _ hS => ⟨a, ns, rfl, hS, hl, fun _ => rfl⟩) fun _ _ _ _ _ z => z
end My
open PySem PySem.W PyProof.Rows
set_option maxRecDepth 100000 in
set_option maxHeartbeats 0 in
theorem PySem.Challenge.cw_sillwatch_k83_mailbox_holds : PySem.Challenge.rw_sillwatch_k83_mailbox.Holds := by
  w_on; o_law; k_head; (case hw => w_witness2)
  k_fill
  refine My.walk (l := PySem.Challenge.rw_sillwatch_k83_mailbox) rfl rfl (fun w h Y => PySem.W.kIn_of Y) ?F
  case F =>
    intro w mg fa h KX G hmg
    refine' My.all_mk KX G hmg ?a1 ?l1 ?c1 ?k1 ?a2 ?l2 ?c2 ?k2 ?a3 ?l3 ?c3 ?k3 ?a4 ?l4 ?c4 ?k4 ?a5 ?l5 ?c5 ?k5 ?a6 ?l6 ?c6 ?k6 ?a7 ?l7 ?c7 ?k7 ?a8 ?l8 ?c8 ?k8 ?a9 ?l9 ?c9 ?k9 ?a10 ?l10 ?c10 ?k10 ?a11 ?l11 ?c11 ?k11 ?a12 ?l12 ?c12 ?k12 ?a13 ?l13 ?c13 ?k13 ?a14 ?l14 ?c14 ?k14 ?a15 ?l15 ?c15 ?k15 ?a16 ?l16 ?c16 ?k16 ?a17 ?l17 ?c17 ?k17 ?a18 ?l18 ?c18 ?k18 ?a19 ?l19 ?c19 ?k19 ?a20 ?l20 ?c20 ?k20 ?a21 ?l21 ?c21 ?k21 ?a22 ?l22 ?c22 ?k22 ?a23 ?l23 ?c23 ?k23 ?a24 ?l24 ?c24 ?k24 ?a25 ?i25 ?l25 ?c25 ?k25 ?a26 ?i26 ?l26 ?c26 ?k26 ?a27 ?i27 ?l27 ?c27 ?k27 ?a28 ?i28 ?l28 ?c28 ?k28 ?a29 ?i29 ?l29 ?c29 ?k29 ?a30 ?i30 ?l30 ?c30 ?k30 ?a31 ?i31 ?l31 ?c31 ?k31 ?a32 ?i32 ?l32 ?c32 ?k32 ?a33 ?i33 ?l33 ?c33 ?k33 ?z_all ?z_bool ?z_int ?z_isinstance ?z_len ?z_list ?z_min ?z_ord ?z_range ?z_str ?z_sum ?z_tuple ?q_GREATEST_NUMBER ?q_LEAST_INT ?q_GREATEST_INT ?q_LONGEST_TEXT ?q_MOST_OCTETS ?q__FIRST_CODE ?q__LAST_CODE ?q__PERCENT_CODE ?q_HEADER_SIZE ?q_GREATEST_SIZE ?q_GREATEST_OPCODE ?q_MOST_ARGUMENTS ?q_MOST_QUEUED ?q_MOST_UNREAD ?q_MOST_UNREAD_OCTETS ?q_OCTETS_FOR_A_UNIT ?uMailbox ?pgMailbox ?hdMailbox ?poMailbox ?saMailbox ?mkMailbox ?kcMailbox ?nMailbox__queue ?nMailbox__unread ?nMailbox__unread_octets ?uBadMessage ?xBadMessage ?keBadMessage ?bxBadMessage ?txBadMessage ?ixBadMessage ?sxBadMessage ?uMessageTooLong ?xMessageTooLong ?keMessageTooLong ?bxMessageTooLong ?txMessageTooLong ?ixMessageTooLong ?sxMessageTooLong
    (case uMailbox => k_is)
    (case uBadMessage => k_is)
    (case uMessageTooLong => k_is)
    (case a1 => k_is)
    (case l1 => k_is)
    (case c1 => k_is)
    (case k1 => k_is)
    (case a2 => k_is)
    (case l2 => k_is)
    (case c2 => k_is)
    (case k2 => k_is)
    (case a3 => k_is)
    (case l3 => k_is)
    (case c3 => k_is)
    (case k3 => k_is)
    (case a4 => k_is)
    (case l4 => k_is)
    (case c4 => k_is)
    (case k4 => k_is)
    (case a5 => k_is)
    (case l5 => k_is)
    (case c5 => k_is)
    (case k5 => k_is)
    (case a6 => k_is)
    (case l6 => k_is)
    (case c6 => k_is)
    (case k6 => k_is)
    (case a7 => k_is)
    (case l7 => k_is)
    (case c7 => k_is)
    (case k7 => k_is)
    (case a8 => k_is)
    (case l8 => k_is)
    (case c8 => k_is)
    (case k8 => k_is)
    (case a9 => k_is)
    (case l9 => k_is)
    (case c9 => k_is)
    (case k9 => k_is)
    (case a10 => k_is)
    (case l10 => k_is)
    (case c10 => k_is)
    (case k10 => k_is)
    (case a11 => k_is)
    (case l11 => k_is)
    (case c11 => k_is)
    (case k11 => k_is)
    (case a12 => k_is)
    (case l12 => k_is)
    (case c12 => k_is)
    (case k12 => k_is)
    (case a13 => k_is)
    (case l13 => k_is)
    (case c13 => k_is)
    (case k13 => k_is)
    (case a14 => k_is)
    (case l14 => k_is)
    (case c14 => k_is)
    (case k14 => k_is)
    (case a15 => k_is)
    (case l15 => k_is)
    (case c15 => k_is)
    (case k15 => k_is)
    (case a16 => k_is)
    (case l16 => k_is)
    (case c16 => k_is)
    (case k16 => k_is)
    (case a17 => k_is)
    (case l17 => k_is)
    (case c17 => k_is)
    (case k17 => k_is)
    (case a18 => k_is)
    (case l18 => k_is)
    (case c18 => k_is)
    (case k18 => k_is)
    (case a19 => k_is)
    (case l19 => k_is)
    (case c19 => k_is)
    (case k19 => k_is)
    (case a20 => k_is)
    (case l20 => k_is)
    (case c20 => k_is)
    (case k20 => k_is)
    (case a21 => k_is)
    (case l21 => k_is)
    (case c21 => k_is)
    (case k21 => k_is)
    (case a22 => k_is)
    (case l22 => k_is)
    (case c22 => k_is)
    (case k22 => k_is)
    (case a23 => k_is)
    (case l23 => k_is)
    (case c23 => k_is)
    (case k23 => k_is)
    (case a24 => k_is)
    (case l24 => k_is)
    (case c24 => k_is)
    (case k24 => k_is)
    (case a25 => k_is)
    (case i25 => k_is)
    (case l25 => k_is)
    (case c25 => k_is)
    (case k25 => k_is)
    (case a26 => k_is)
    (case i26 => k_is)
    (case l26 => k_is)
    (case c26 => k_is)
    (case k26 => k_is)
    (case a27 => k_is)
    (case i27 => k_is)
    (case l27 => k_is)
    (case c27 => k_is)
    (case k27 => k_is)
    (case a28 => k_is)
    (case i28 => k_is)
    (case l28 => k_is)
    (case c28 => k_is)
    (case k28 => k_is)
    (case a29 => k_is)
    (case i29 => k_is)
    (case l29 => k_is)
    (case c29 => k_is)
    (case k29 => k_is)
    (case a30 => k_is)
    (case i30 => k_is)
    (case l30 => k_is)
    (case c30 => k_is)
    (case k30 => k_is)
    (case a31 => k_is)
    (case i31 => k_is)
    (case l31 => k_is)
    (case c31 => k_is)
    (case k31 => k_is)
    (case a32 => k_is)
    (case i32 => k_is)
    (case l32 => k_is)
    (case c32 => k_is)
    (case k32 => k_is)
    (case a33 => k_is)
    (case i33 => k_is)
    (case l33 => k_is)
    (case c33 => k_is)
    (case k33 => k_is)
    (case z_all => k_is)
    (case z_bool => k_is)
    (case z_int => k_is)
    (case z_isinstance => k_is)
    (case z_len => k_is)
    (case z_list => k_is)
    (case z_min => k_is)
    (case z_ord => k_is)
    (case z_range => k_is)
    (case z_str => k_is)
    (case z_sum => k_is)
    (case z_tuple => k_is)
    (case q_GREATEST_NUMBER => k_is)
    (case q_LEAST_INT => k_is)
    (case q_GREATEST_INT => k_is)
    (case q_LONGEST_TEXT => k_is)
    (case q_MOST_OCTETS => k_is)
    (case q__FIRST_CODE => k_is)
    (case q__LAST_CODE => k_is)
    (case q__PERCENT_CODE => k_is)
    (case q_HEADER_SIZE => k_is)
    (case q_GREATEST_SIZE => k_is)
    (case q_GREATEST_OPCODE => k_is)
    (case q_MOST_ARGUMENTS => k_is)
    (case q_MOST_QUEUED => k_is)
    (case q_MOST_UNREAD => k_is)
    (case q_MOST_UNREAD_OCTETS => k_is)
    (case q_OCTETS_FOR_A_UNIT => k_is)
    (case pgMailbox => k_is)
    (case hdMailbox => k_is)
    (case poMailbox => k_is)
    (case saMailbox => k_is)
    (case mkMailbox => k_is)
    (case kcMailbox => k_is)
    (case nMailbox__queue => k_is)
    (case nMailbox__unread => k_is)
    (case nMailbox__unread_octets => k_is)
    (case xBadMessage => k_exc)
    (case keBadMessage => k_is)
    (case bxBadMessage => k_is)
    (case txBadMessage => k_is)
    (case ixBadMessage => k_is)
    (case sxBadMessage => first | rfl | k_is)
    (case xMessageTooLong => k_exc)
    (case keMessageTooLong => k_is)
    (case bxMessageTooLong => k_is)
    (case txMessageTooLong => k_is)
    (case ixMessageTooLong => k_is)
    (case sxMessageTooLong => first | rfl | k_is)
