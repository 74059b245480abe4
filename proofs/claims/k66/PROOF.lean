import PyProof.Rows.All
import Wide.All
import OpenK.AllK
import Wide.FinOn
import HandS.ForMost
import HandS.Exc
import HandS.TryOnly
import HandS.ExcOwn
import HandS.WordsExc
import HandS.IsInst
import HandS.Wide
import HandS.Flow
import HandS.More
import HandS.Codes
import HandS.Walk
import HandS.TupLe
import HandS.WordsDict
import HandS.Conv
import HandS.TryMany
import HandS.ExcIs
import KE.KBits
import HandS.CallLocal
import HandS.Strs
import HandS.SetFor
import HandS.Set
import HandS.Property
import KE.GoesMore
import KE.KTurns
import KE.KDictZip
import HandS.Keys
import HandS.Remove
import PySem.Challenge.RW_sillwatch_k66_drags_told
set_option Elab.async false
set_option linter.all false
set_option maxRecDepth 100000
set_option maxHeartbeats 4000000
namespace My
open PySem L2
def topS (i : Nat) : Stmt := PySem.Challenge.pw_sillwatch_k66_drags_told.main.body.getD i (.Pass ⟨0, 0, 0, 0⟩)
abbrev s_is_integer : Stmt := topS 31
abbrev s_is_text : Stmt := topS 32
abbrev s_number_octets : Stmt := topS 33
abbrev s_field_octets : Stmt := topS 34
abbrev s__is_code : Stmt := topS 35
abbrev s__is_of : Stmt := topS 36
abbrev s__are_octets : Stmt := topS 37
abbrev s__is_bound : Stmt := topS 38
abbrev s__text_octets : Stmt := topS 39
abbrev s__padded : Stmt := topS 40
abbrev s_encode_message : Stmt := topS 46
abbrev s_event_octets : Stmt := topS 49
abbrev s__opcode_of : Stmt := topS 50
abbrev s__law_cell : Stmt := topS 54
abbrev s__law_row : Stmt := topS 55
abbrev s__law_hover : Stmt := topS 56
abbrev s__law_move : Stmt := topS 57
abbrev s__law_leave : Stmt := topS 58
abbrev s_law : Stmt := topS 59
abbrev s_Captures___init__ : Stmt := inClass (topS 8) 0
abbrev s_Captures_forget : Stmt := inClass (topS 8) 4
abbrev s_Fetches___init__ : Stmt := inClass (topS 11) 0
abbrev s_Fetches_forget : Stmt := inClass (topS 11) 7
abbrev s_Offers___init__ : Stmt := inClass (topS 14) 0
abbrev s_Offers_bound : Stmt := inClass (topS 14) 1
abbrev s_Offers_pane : Stmt := inClass (topS 14) 2
abbrev s_Offers_forget : Stmt := inClass (topS 14) 3
abbrev s_Offers_hovers : Stmt := inClass (topS 14) 6
abbrev s_Offers_moves : Stmt := inClass (topS 14) 7
abbrev s_Offers_leaves : Stmt := inClass (topS 14) 8
abbrev s_Offers_dropped : Stmt := inClass (topS 14) 9
abbrev s_Sources___init__ : Stmt := inClass (topS 19) 0
abbrev s_Sources_forget : Stmt := inClass (topS 19) 5
abbrev s_Holdings___init__ : Stmt := inClass (topS 21) 0
abbrev s_Holdings_bound : Stmt := inClass (topS 21) 2
abbrev s_Holdings_ended : Stmt := inClass (topS 21) 3
abbrev s_Holdings_pane : Stmt := inClass (topS 21) 4
abbrev s_Holdings_hovers : Stmt := inClass (topS 21) 6
abbrev s_Holdings_moves : Stmt := inClass (topS 21) 7
abbrev s_Holdings_leaves : Stmt := inClass (topS 21) 8
abbrev s_Holdings_dropped : Stmt := inClass (topS 21) 9
abbrev s_Reply___init__ : Stmt := inClass (topS 52) 0
abbrev s_Reply_tell : Stmt := inClass (topS 52) 1
structure Adr where
  fis_integer : Addr
  dis_integer : FuncData
  fis_text : Addr
  dis_text : FuncData
  fnumber_octets : Addr
  dnumber_octets : FuncData
  ffield_octets : Addr
  dfield_octets : FuncData
  f_is_code : Addr
  d_is_code : FuncData
  f_is_of : Addr
  d_is_of : FuncData
  f_are_octets : Addr
  d_are_octets : FuncData
  f_is_bound : Addr
  d_is_bound : FuncData
  f_text_octets : Addr
  d_text_octets : FuncData
  f_padded : Addr
  d_padded : FuncData
  fencode_message : Addr
  dencode_message : FuncData
  fevent_octets : Addr
  devent_octets : FuncData
  f_opcode_of : Addr
  d_opcode_of : FuncData
  f_law_cell : Addr
  d_law_cell : FuncData
  f_law_row : Addr
  d_law_row : FuncData
  f_law_hover : Addr
  d_law_hover : FuncData
  f_law_move : Addr
  d_law_move : FuncData
  f_law_leave : Addr
  d_law_leave : FuncData
  flaw : Addr
  dlaw : FuncData
  fCaptures___init__ : Addr
  dCaptures___init__ : FuncData
  fCaptures_forget : Addr
  dCaptures_forget : FuncData
  fFetches___init__ : Addr
  dFetches___init__ : FuncData
  fFetches_forget : Addr
  dFetches_forget : FuncData
  fOffers___init__ : Addr
  dOffers___init__ : FuncData
  fOffers_bound : Addr
  dOffers_bound : FuncData
  fOffers_pane : Addr
  dOffers_pane : FuncData
  fOffers_forget : Addr
  dOffers_forget : FuncData
  fOffers_hovers : Addr
  dOffers_hovers : FuncData
  fOffers_moves : Addr
  dOffers_moves : FuncData
  fOffers_leaves : Addr
  dOffers_leaves : FuncData
  fOffers_dropped : Addr
  dOffers_dropped : FuncData
  fSources___init__ : Addr
  dSources___init__ : FuncData
  fSources_forget : Addr
  dSources_forget : FuncData
  fHoldings___init__ : Addr
  dHoldings___init__ : FuncData
  fHoldings_bound : Addr
  dHoldings_bound : FuncData
  fHoldings_ended : Addr
  dHoldings_ended : FuncData
  fHoldings_pane : Addr
  dHoldings_pane : FuncData
  fHoldings_hovers : Addr
  dHoldings_hovers : FuncData
  fHoldings_moves : Addr
  dHoldings_moves : FuncData
  fHoldings_leaves : Addr
  dHoldings_leaves : FuncData
  fHoldings_dropped : Addr
  dHoldings_dropped : FuncData
  fReply___init__ : Addr
  dReply___init__ : FuncData
  fReply_tell : Addr
  dReply_tell : FuncData
  tGREATEST_NUMBER : Tok
  tLEAST_INT : Tok
  tGREATEST_INT : Tok
  tLONGEST_TEXT_fields : Tok
  tMOST_OCTETS_fields : Tok
  t_FIRST_CODE : Tok
  t_LAST_CODE : Tok
  t_PERCENT_CODE : Tok
  tHEADER_SIZE : Tok
  tGREATEST_SIZE : Tok
  tGREATEST_OPCODE : Tok
  tMOST_ARGUMENTS : Tok
  a_EVENTS : Addr
  a_EVENTS_k0 : Addr
  a_EVENTS_k0_0 : Addr
  a_EVENTS_k0_0_1 : Addr
  a_EVENTS_k0_1 : Addr
  a_EVENTS_k0_1_1 : Addr
  a_EVENTS_k1 : Addr
  a_EVENTS_k1_0 : Addr
  a_EVENTS_k1_0_1 : Addr
  a_EVENTS_k2 : Addr
  a_EVENTS_k2_0 : Addr
  a_EVENTS_k2_0_1 : Addr
  a_EVENTS_k2_1 : Addr
  a_EVENTS_k2_1_1 : Addr
  a_EVENTS_k3 : Addr
  a_EVENTS_k3_0 : Addr
  a_EVENTS_k3_0_1 : Addr
  a_EVENTS_k4 : Addr
  a_EVENTS_k4_0 : Addr
  a_EVENTS_k4_0_1 : Addr
  a_EVENTS_k5 : Addr
  a_EVENTS_k5_0 : Addr
  a_EVENTS_k5_0_1 : Addr
  a_EVENTS_k5_1 : Addr
  a_EVENTS_k5_1_1 : Addr
  a_EVENTS_k5_2 : Addr
  a_EVENTS_k5_2_1 : Addr
  a_EVENTS_k5_3 : Addr
  a_EVENTS_k5_3_1 : Addr
  a_EVENTS_k6 : Addr
  a_EVENTS_k6_0 : Addr
  a_EVENTS_k6_0_1 : Addr
  a_EVENTS_k6_1 : Addr
  a_EVENTS_k6_1_1 : Addr
  a_EVENTS_k7 : Addr
  a_EVENTS_k7_0 : Addr
  a_EVENTS_k7_0_1 : Addr
  a_EVENTS_k7_1 : Addr
  a_EVENTS_k7_1_1 : Addr
  a_EVENTS_k7_2 : Addr
  a_EVENTS_k7_2_1 : Addr
  a_EVENTS_k7_3 : Addr
  a_EVENTS_k7_3_1 : Addr
  a_EVENTS_k7_4 : Addr
  a_EVENTS_k7_4_1 : Addr
  a_EVENTS_k8 : Addr
  a_EVENTS_k8_0 : Addr
  a_EVENTS_k8_0_1 : Addr
  a_EVENTS_k8_1 : Addr
  a_EVENTS_k8_1_1 : Addr
  a_EVENTS_k8_2 : Addr
  a_EVENTS_k8_2_1 : Addr
  a_EVENTS_k8_3 : Addr
  a_EVENTS_k8_3_1 : Addr
  a_EVENTS_k8_4 : Addr
  a_EVENTS_k8_4_1 : Addr
  a_EVENTS_k9 : Addr
  a_EVENTS_k9_0 : Addr
  a_EVENTS_k9_0_1 : Addr
  a_EVENTS_k9_1 : Addr
  a_EVENTS_k9_1_1 : Addr
  a_EVENTS_k9_2 : Addr
  a_EVENTS_k9_2_1 : Addr
  a_EVENTS_k9_3 : Addr
  a_EVENTS_k9_3_1 : Addr
  a_EVENTS_k9_4 : Addr
  a_EVENTS_k9_4_1 : Addr
  a_EVENTS_k9_5 : Addr
  a_EVENTS_k9_5_1 : Addr
  a_EVENTS_k10 : Addr
  a_EVENTS_k10_0 : Addr
  a_EVENTS_k10_0_1 : Addr
  a_EVENTS_k10_1 : Addr
  a_EVENTS_k10_1_1 : Addr
  a_EVENTS_k11 : Addr
  a_EVENTS_k11_0 : Addr
  a_EVENTS_k11_0_1 : Addr
  a_EVENTS_k11_1 : Addr
  a_EVENTS_k11_1_1 : Addr
  a_EVENTS_k11_2 : Addr
  a_EVENTS_k11_2_1 : Addr
  a_EVENTS_k12 : Addr
  a_EVENTS_k12_0 : Addr
  a_EVENTS_k12_0_1 : Addr
  a_EVENTS_k12_1 : Addr
  a_EVENTS_k12_1_1 : Addr
  a_EVENTS_k12_2 : Addr
  a_EVENTS_k12_2_1 : Addr
  a_EVENTS_k13 : Addr
  a_EVENTS_k13_0 : Addr
  a_EVENTS_k13_0_1 : Addr
  a_EVENTS_k13_1 : Addr
  a_EVENTS_k13_1_1 : Addr
  CCaptures : Addr
  CFetches : Addr
  COffers : Addr
  CSources : Addr
  CHoldings : Addr
  CReply : Addr
  CBadMessage : Addr
  CMessageTooLong : Addr
structure Txt (K : PySem.W.Frag) (mg : Str → Option Value) (A : Adr) : Prop where
  Fis_integer : Fun K "is_integer" "is_integer" s_is_integer A.fis_integer A.dis_integer
  bis_integer : Binds K A.dis_integer ["value", "least", "greatest"] []
  gis_integer : mg "is_integer" = some (.ref A.fis_integer)
  kis_integer : PySem.W.keepIn K (.ref A.fis_integer) = true
  Fis_text : Fun K "is_text" "is_text" s_is_text A.fis_text A.dis_text
  bis_text : Binds K A.dis_text ["value"] []
  gis_text : mg "is_text" = some (.ref A.fis_text)
  kis_text : PySem.W.keepIn K (.ref A.fis_text) = true
  Fnumber_octets : Fun K "number_octets" "number_octets" s_number_octets A.fnumber_octets A.dnumber_octets
  bnumber_octets : Binds K A.dnumber_octets ["number", "count"] []
  gnumber_octets : mg "number_octets" = some (.ref A.fnumber_octets)
  knumber_octets : PySem.W.keepIn K (.ref A.fnumber_octets) = true
  Ffield_octets : Fun K "field_octets" "field_octets" s_field_octets A.ffield_octets A.dfield_octets
  bfield_octets : Binds K A.dfield_octets ["kind", "value"] []
  gfield_octets : mg "field_octets" = some (.ref A.ffield_octets)
  kfield_octets : PySem.W.keepIn K (.ref A.ffield_octets) = true
  F_is_code : Fun K "_is_code" "_is_code" s__is_code A.f_is_code A.d_is_code
  b_is_code : Binds K A.d_is_code ["code"] []
  g_is_code : mg "_is_code" = some (.ref A.f_is_code)
  k_is_code : PySem.W.keepIn K (.ref A.f_is_code) = true
  F_is_of : Fun K "_is_of" "_is_of" s__is_of A.f_is_of A.d_is_of
  b_is_of : Binds K A.d_is_of ["kind", "value"] []
  g_is_of : mg "_is_of" = some (.ref A.f_is_of)
  k_is_of : PySem.W.keepIn K (.ref A.f_is_of) = true
  F_are_octets : Fun K "_are_octets" "_are_octets" s__are_octets A.f_are_octets A.d_are_octets
  b_are_octets : Binds K A.d_are_octets ["value"] []
  g_are_octets : mg "_are_octets" = some (.ref A.f_are_octets)
  k_are_octets : PySem.W.keepIn K (.ref A.f_are_octets) = true
  F_is_bound : Fun K "_is_bound" "_is_bound" s__is_bound A.f_is_bound A.d_is_bound
  b_is_bound : Binds K A.d_is_bound ["value"] []
  g_is_bound : mg "_is_bound" = some (.ref A.f_is_bound)
  k_is_bound : PySem.W.keepIn K (.ref A.f_is_bound) = true
  F_text_octets : Fun K "_text_octets" "_text_octets" s__text_octets A.f_text_octets A.d_text_octets
  b_text_octets : Binds K A.d_text_octets ["text"] []
  g_text_octets : mg "_text_octets" = some (.ref A.f_text_octets)
  k_text_octets : PySem.W.keepIn K (.ref A.f_text_octets) = true
  F_padded : Fun K "_padded" "_padded" s__padded A.f_padded A.d_padded
  b_padded : Binds K A.d_padded ["octets"] []
  g_padded : mg "_padded" = some (.ref A.f_padded)
  k_padded : PySem.W.keepIn K (.ref A.f_padded) = true
  Fencode_message : Fun K "encode_message" "encode_message" s_encode_message A.fencode_message A.dencode_message
  bencode_message : Binds K A.dencode_message ["number", "opcode", "arguments"] []
  gencode_message : mg "encode_message" = some (.ref A.fencode_message)
  kencode_message : PySem.W.keepIn K (.ref A.fencode_message) = true
  Fevent_octets : Fun K "event_octets" "event_octets" s_event_octets A.fevent_octets A.devent_octets
  bevent_octets : Binds K A.devent_octets ["number", "interface", "name", "values"] []
  gevent_octets : mg "event_octets" = some (.ref A.fevent_octets)
  kevent_octets : PySem.W.keepIn K (.ref A.fevent_octets) = true
  F_opcode_of : Fun K "_opcode_of" "_opcode_of" s__opcode_of A.f_opcode_of A.d_opcode_of
  b_opcode_of : Binds K A.d_opcode_of ["rows", "name"] []
  g_opcode_of : mg "_opcode_of" = some (.ref A.f_opcode_of)
  k_opcode_of : PySem.W.keepIn K (.ref A.f_opcode_of) = true
  F_law_cell : Fun K "_law_cell" "_law_cell" s__law_cell A.f_law_cell A.d_law_cell
  b_law_cell : Binds K A.d_law_cell ["script", "k"] []
  g_law_cell : mg "_law_cell" = some (.ref A.f_law_cell)
  k_law_cell : PySem.W.keepIn K (.ref A.f_law_cell) = true
  F_law_row : Fun K "_law_row" "_law_row" s__law_row A.f_law_row A.d_law_row
  b_law_row : Binds K A.d_law_row ["script", "k"] []
  g_law_row : mg "_law_row" = some (.ref A.f_law_row)
  k_law_row : PySem.W.keepIn K (.ref A.f_law_row) = true
  F_law_hover : Fun K "_law_hover" "_law_hover" s__law_hover A.f_law_hover A.d_law_hover
  b_law_hover : Binds K A.d_law_hover ["holdings", "pane", "row"] []
  g_law_hover : mg "_law_hover" = some (.ref A.f_law_hover)
  k_law_hover : PySem.W.keepIn K (.ref A.f_law_hover) = true
  F_law_move : Fun K "_law_move" "_law_move" s__law_move A.f_law_move A.d_law_move
  b_law_move : Binds K A.d_law_move ["holdings", "pane", "on", "row"] []
  g_law_move : mg "_law_move" = some (.ref A.f_law_move)
  k_law_move : PySem.W.keepIn K (.ref A.f_law_move) = true
  F_law_leave : Fun K "_law_leave" "_law_leave" s__law_leave A.f_law_leave A.d_law_leave
  b_law_leave : Binds K A.d_law_leave ["holdings", "pane", "on"] []
  g_law_leave : mg "_law_leave" = some (.ref A.f_law_leave)
  k_law_leave : PySem.W.keepIn K (.ref A.f_law_leave) = true
  Flaw : Fun K "law" "law" s_law A.flaw A.dlaw
  blaw : Binds K A.dlaw ["script"] []
  glaw : mg "law" = some (.ref A.flaw)
  klaw : PySem.W.keepIn K (.ref A.flaw) = true
  FCaptures___init__ : Fun K "__init__" "Captures.__init__" s_Captures___init__ A.fCaptures___init__ A.dCaptures___init__
  bCaptures___init__ : Binds K A.dCaptures___init__ ["self"] []
  MCaptures : Mk K A.CCaptures A.fCaptures___init__
  FCaptures_forget : Fun K "forget" "Captures.forget" s_Captures_forget A.fCaptures_forget A.dCaptures_forget
  bCaptures_forget : Binds K A.dCaptures_forget ["self", "number"] []
  mCaptures_forget : Meth K A.CCaptures "forget" A.fCaptures_forget
  FFetches___init__ : Fun K "__init__" "Fetches.__init__" s_Fetches___init__ A.fFetches___init__ A.dFetches___init__
  bFetches___init__ : Binds K A.dFetches___init__ ["self"] []
  MFetches : Mk K A.CFetches A.fFetches___init__
  FFetches_forget : Fun K "forget" "Fetches.forget" s_Fetches_forget A.fFetches_forget A.dFetches_forget
  bFetches_forget : Binds K A.dFetches_forget ["self", "number"] []
  mFetches_forget : Meth K A.CFetches "forget" A.fFetches_forget
  FOffers___init__ : Fun K "__init__" "Offers.__init__" s_Offers___init__ A.fOffers___init__ A.dOffers___init__
  bOffers___init__ : Binds K A.dOffers___init__ ["self"] []
  MOffers : Mk K A.COffers A.fOffers___init__
  FOffers_bound : Fun K "bound" "Offers.bound" s_Offers_bound A.fOffers_bound A.dOffers_bound
  bOffers_bound : Binds K A.dOffers_bound ["self", "number"] []
  mOffers_bound : Meth K A.COffers "bound" A.fOffers_bound
  FOffers_pane : Fun K "pane" "Offers.pane" s_Offers_pane A.fOffers_pane A.dOffers_pane
  bOffers_pane : Binds K A.dOffers_pane ["self"] []
  mOffers_pane : Meth K A.COffers "pane" A.fOffers_pane
  FOffers_forget : Fun K "forget" "Offers.forget" s_Offers_forget A.fOffers_forget A.dOffers_forget
  bOffers_forget : Binds K A.dOffers_forget ["self", "number"] []
  mOffers_forget : Meth K A.COffers "forget" A.fOffers_forget
  FOffers_hovers : Fun K "hovers" "Offers.hovers" s_Offers_hovers A.fOffers_hovers A.dOffers_hovers
  bOffers_hovers : Binds K A.dOffers_hovers ["self", "surface", "x", "y", "goods", "reply"] []
  mOffers_hovers : Meth K A.COffers "hovers" A.fOffers_hovers
  FOffers_moves : Fun K "moves" "Offers.moves" s_Offers_moves A.fOffers_moves A.dOffers_moves
  bOffers_moves : Binds K A.dOffers_moves ["self", "time", "x", "y", "reply"] []
  mOffers_moves : Meth K A.COffers "moves" A.fOffers_moves
  FOffers_leaves : Fun K "leaves" "Offers.leaves" s_Offers_leaves A.fOffers_leaves A.dOffers_leaves
  bOffers_leaves : Binds K A.dOffers_leaves ["self", "reply"] []
  mOffers_leaves : Meth K A.COffers "leaves" A.fOffers_leaves
  FOffers_dropped : Fun K "dropped" "Offers.dropped" s_Offers_dropped A.fOffers_dropped A.dOffers_dropped
  bOffers_dropped : Binds K A.dOffers_dropped ["self"] []
  mOffers_dropped : Meth K A.COffers "dropped" A.fOffers_dropped
  FSources___init__ : Fun K "__init__" "Sources.__init__" s_Sources___init__ A.fSources___init__ A.dSources___init__
  bSources___init__ : Binds K A.dSources___init__ ["self"] []
  MSources : Mk K A.CSources A.fSources___init__
  FSources_forget : Fun K "forget" "Sources.forget" s_Sources_forget A.fSources_forget A.dSources_forget
  bSources_forget : Binds K A.dSources_forget ["self", "number"] []
  mSources_forget : Meth K A.CSources "forget" A.fSources_forget
  FHoldings___init__ : Fun K "__init__" "Holdings.__init__" s_Holdings___init__ A.fHoldings___init__ A.dHoldings___init__
  bHoldings___init__ : Binds K A.dHoldings___init__ ["self"] []
  MHoldings : Mk K A.CHoldings A.fHoldings___init__
  FHoldings_bound : Fun K "bound" "Holdings.bound" s_Holdings_bound A.fHoldings_bound A.dHoldings_bound
  bHoldings_bound : Binds K A.dHoldings_bound ["self", "number"] []
  mHoldings_bound : Meth K A.CHoldings "bound" A.fHoldings_bound
  FHoldings_ended : Fun K "ended" "Holdings.ended" s_Holdings_ended A.fHoldings_ended A.dHoldings_ended
  bHoldings_ended : Binds K A.dHoldings_ended ["self", "number"] []
  mHoldings_ended : Meth K A.CHoldings "ended" A.fHoldings_ended
  FHoldings_pane : Fun K "pane" "Holdings.pane" s_Holdings_pane A.fHoldings_pane A.dHoldings_pane
  bHoldings_pane : Binds K A.dHoldings_pane ["self"] []
  mHoldings_pane : Meth K A.CHoldings "pane" A.fHoldings_pane
  FHoldings_hovers : Fun K "hovers" "Holdings.hovers" s_Holdings_hovers A.fHoldings_hovers A.dHoldings_hovers
  bHoldings_hovers : Binds K A.dHoldings_hovers ["self", "surface", "x", "y", "goods", "reply"] []
  mHoldings_hovers : Meth K A.CHoldings "hovers" A.fHoldings_hovers
  FHoldings_moves : Fun K "moves" "Holdings.moves" s_Holdings_moves A.fHoldings_moves A.dHoldings_moves
  bHoldings_moves : Binds K A.dHoldings_moves ["self", "time", "x", "y", "reply"] []
  mHoldings_moves : Meth K A.CHoldings "moves" A.fHoldings_moves
  FHoldings_leaves : Fun K "leaves" "Holdings.leaves" s_Holdings_leaves A.fHoldings_leaves A.dHoldings_leaves
  bHoldings_leaves : Binds K A.dHoldings_leaves ["self", "reply"] []
  mHoldings_leaves : Meth K A.CHoldings "leaves" A.fHoldings_leaves
  FHoldings_dropped : Fun K "dropped" "Holdings.dropped" s_Holdings_dropped A.fHoldings_dropped A.dHoldings_dropped
  bHoldings_dropped : Binds K A.dHoldings_dropped ["self"] []
  mHoldings_dropped : Meth K A.CHoldings "dropped" A.fHoldings_dropped
  FReply___init__ : Fun K "__init__" "Reply.__init__" s_Reply___init__ A.fReply___init__ A.dReply___init__
  bReply___init__ : Binds K A.dReply___init__ ["self"] []
  MReply : Mk K A.CReply A.fReply___init__
  FReply_tell : Fun K "tell" "Reply.tell" s_Reply_tell A.fReply_tell A.dReply_tell
  bReply_tell : Binds K A.dReply_tell ["self", "number", "interface", "name", "values"] []
  mReply_tell : Meth K A.CReply "tell" A.fReply_tell
  all : mg "all" = none
  bool : mg "bool" = none
  int : mg "int" = none
  isinstance : mg "isinstance" = none
  len : mg "len" = none
  list : mg "list" = none
  min : mg "min" = none
  ord : mg "ord" = none
  range : mg "range" = none
  str : mg "str" = none
  tuple : mg "tuple" = none
  zip : mg "zip" = none
  gGREATEST_NUMBER : mg "GREATEST_NUMBER" = some (.int (4294967295) A.tGREATEST_NUMBER)
  gLEAST_INT : mg "LEAST_INT" = some (.int (-2147483648) A.tLEAST_INT)
  gGREATEST_INT : mg "GREATEST_INT" = some (.int (2147483647) A.tGREATEST_INT)
  gLONGEST_TEXT_fields : mg "LONGEST_TEXT_fields" = some (.int (1000) A.tLONGEST_TEXT_fields)
  gMOST_OCTETS_fields : mg "MOST_OCTETS_fields" = some (.int (16384) A.tMOST_OCTETS_fields)
  g_FIRST_CODE : mg "_FIRST_CODE" = some (.int (32) A.t_FIRST_CODE)
  g_LAST_CODE : mg "_LAST_CODE" = some (.int (126) A.t_LAST_CODE)
  g_PERCENT_CODE : mg "_PERCENT_CODE" = some (.int (37) A.t_PERCENT_CODE)
  gHEADER_SIZE : mg "HEADER_SIZE" = some (.int (8) A.tHEADER_SIZE)
  gGREATEST_SIZE : mg "GREATEST_SIZE" = some (.int (20480) A.tGREATEST_SIZE)
  gGREATEST_OPCODE : mg "GREATEST_OPCODE" = some (.int (65535) A.tGREATEST_OPCODE)
  gMOST_ARGUMENTS : mg "MOST_ARGUMENTS" = some (.int (20) A.tMOST_ARGUMENTS)
  g_EVENTS : mg "_EVENTS" = some (.ref A.a_EVENTS)
  w_EVENTS_k0 : ∀ H : Hp, SqT K H A.a_EVENTS_k0 [.ref A.a_EVENTS_k0_0, .ref A.a_EVENTS_k0_1]
  w_EVENTS_k0_0 : ∀ H : Hp, SqT K H A.a_EVENTS_k0_0 [.str "error", .ref A.a_EVENTS_k0_0_1]
  w_EVENTS_k0_0_1 : ∀ H : Hp, SqT K H A.a_EVENTS_k0_0_1 [.str "uint", .str "uint", .str "text"]
  w_EVENTS_k0_1 : ∀ H : Hp, SqT K H A.a_EVENTS_k0_1 [.str "removed", .ref A.a_EVENTS_k0_1_1]
  w_EVENTS_k0_1_1 : ∀ H : Hp, SqT K H A.a_EVENTS_k0_1_1 [.str "uint"]
  w_EVENTS_k1 : ∀ H : Hp, SqT K H A.a_EVENTS_k1 [.ref A.a_EVENTS_k1_0]
  w_EVENTS_k1_0 : ∀ H : Hp, SqT K H A.a_EVENTS_k1_0 [.str "done", .ref A.a_EVENTS_k1_0_1]
  w_EVENTS_k1_0_1 : ∀ H : Hp, SqT K H A.a_EVENTS_k1_0_1 [.str "uint"]
  w_EVENTS_k2 : ∀ H : Hp, SqT K H A.a_EVENTS_k2 [.ref A.a_EVENTS_k2_0, .ref A.a_EVENTS_k2_1]
  w_EVENTS_k2_0 : ∀ H : Hp, SqT K H A.a_EVENTS_k2_0 [.str "there", .ref A.a_EVENTS_k2_0_1]
  w_EVENTS_k2_0_1 : ∀ H : Hp, SqT K H A.a_EVENTS_k2_0_1 [.str "uint", .str "text"]
  w_EVENTS_k2_1 : ∀ H : Hp, SqT K H A.a_EVENTS_k2_1 [.str "gone", .ref A.a_EVENTS_k2_1_1]
  w_EVENTS_k2_1_1 : ∀ H : Hp, SqT K H A.a_EVENTS_k2_1_1 [.str "uint"]
  w_EVENTS_k3 : ∀ H : Hp, SqT K H A.a_EVENTS_k3 [.ref A.a_EVENTS_k3_0]
  w_EVENTS_k3_0 : ∀ H : Hp, SqT K H A.a_EVENTS_k3_0 [.str "release", .ref A.a_EVENTS_k3_0_1]
  w_EVENTS_k3_0_1 : ∀ H : Hp, SqT K H A.a_EVENTS_k3_0_1 []
  w_EVENTS_k4 : ∀ H : Hp, SqT K H A.a_EVENTS_k4 [.ref A.a_EVENTS_k4_0]
  w_EVENTS_k4_0 : ∀ H : Hp, SqT K H A.a_EVENTS_k4_0 [.str "size", .ref A.a_EVENTS_k4_0_1]
  w_EVENTS_k4_0_1 : ∀ H : Hp, SqT K H A.a_EVENTS_k4_0_1 [.str "uint", .str "uint", .str "uint", .str "uint"]
  w_EVENTS_k5 : ∀ H : Hp, SqT K H A.a_EVENTS_k5 [.ref A.a_EVENTS_k5_0, .ref A.a_EVENTS_k5_1, .ref A.a_EVENTS_k5_2, .ref A.a_EVENTS_k5_3]
  w_EVENTS_k5_0 : ∀ H : Hp, SqT K H A.a_EVENTS_k5_0 [.str "configure", .ref A.a_EVENTS_k5_0_1]
  w_EVENTS_k5_0_1 : ∀ H : Hp, SqT K H A.a_EVENTS_k5_0_1 [.str "uint", .str "uint", .str "uint", .str "uint"]
  w_EVENTS_k5_1 : ∀ H : Hp, SqT K H A.a_EVENTS_k5_1 [.str "close", .ref A.a_EVENTS_k5_1_1]
  w_EVENTS_k5_1_1 : ∀ H : Hp, SqT K H A.a_EVENTS_k5_1_1 []
  w_EVENTS_k5_2 : ∀ H : Hp, SqT K H A.a_EVENTS_k5_2 [.str "output", .ref A.a_EVENTS_k5_2_1]
  w_EVENTS_k5_2_1 : ∀ H : Hp, SqT K H A.a_EVENTS_k5_2_1 [.str "uint"]
  w_EVENTS_k5_3 : ∀ H : Hp, SqT K H A.a_EVENTS_k5_3 [.str "left", .ref A.a_EVENTS_k5_3_1]
  w_EVENTS_k5_3_1 : ∀ H : Hp, SqT K H A.a_EVENTS_k5_3_1 [.str "uint"]
  w_EVENTS_k6 : ∀ H : Hp, SqT K H A.a_EVENTS_k6 [.ref A.a_EVENTS_k6_0, .ref A.a_EVENTS_k6_1]
  w_EVENTS_k6_0 : ∀ H : Hp, SqT K H A.a_EVENTS_k6_0 [.str "placed", .ref A.a_EVENTS_k6_0_1]
  w_EVENTS_k6_0_1 : ∀ H : Hp, SqT K H A.a_EVENTS_k6_0_1 [.str "int", .str "int", .str "uint", .str "uint"]
  w_EVENTS_k6_1 : ∀ H : Hp, SqT K H A.a_EVENTS_k6_1 [.str "done", .ref A.a_EVENTS_k6_1_1]
  w_EVENTS_k6_1_1 : ∀ H : Hp, SqT K H A.a_EVENTS_k6_1_1 []
  w_EVENTS_k7 : ∀ H : Hp, SqT K H A.a_EVENTS_k7 [.ref A.a_EVENTS_k7_0, .ref A.a_EVENTS_k7_1, .ref A.a_EVENTS_k7_2, .ref A.a_EVENTS_k7_3, .ref A.a_EVENTS_k7_4]
  w_EVENTS_k7_0 : ∀ H : Hp, SqT K H A.a_EVENTS_k7_0 [.str "enter", .ref A.a_EVENTS_k7_0_1]
  w_EVENTS_k7_0_1 : ∀ H : Hp, SqT K H A.a_EVENTS_k7_0_1 [.str "object", .str "int", .str "int"]
  w_EVENTS_k7_1 : ∀ H : Hp, SqT K H A.a_EVENTS_k7_1 [.str "leave", .ref A.a_EVENTS_k7_1_1]
  w_EVENTS_k7_1_1 : ∀ H : Hp, SqT K H A.a_EVENTS_k7_1_1 [.str "object"]
  w_EVENTS_k7_2 : ∀ H : Hp, SqT K H A.a_EVENTS_k7_2 [.str "motion", .ref A.a_EVENTS_k7_2_1]
  w_EVENTS_k7_2_1 : ∀ H : Hp, SqT K H A.a_EVENTS_k7_2_1 [.str "int", .str "int", .str "uint"]
  w_EVENTS_k7_3 : ∀ H : Hp, SqT K H A.a_EVENTS_k7_3 [.str "button", .ref A.a_EVENTS_k7_3_1]
  w_EVENTS_k7_3_1 : ∀ H : Hp, SqT K H A.a_EVENTS_k7_3_1 [.str "uint", .str "uint", .str "uint", .str "uint"]
  w_EVENTS_k7_4 : ∀ H : Hp, SqT K H A.a_EVENTS_k7_4 [.str "axis", .ref A.a_EVENTS_k7_4_1]
  w_EVENTS_k7_4_1 : ∀ H : Hp, SqT K H A.a_EVENTS_k7_4_1 [.str "int", .str "int", .str "uint"]
  w_EVENTS_k8 : ∀ H : Hp, SqT K H A.a_EVENTS_k8 [.ref A.a_EVENTS_k8_0, .ref A.a_EVENTS_k8_1, .ref A.a_EVENTS_k8_2, .ref A.a_EVENTS_k8_3, .ref A.a_EVENTS_k8_4]
  w_EVENTS_k8_0 : ∀ H : Hp, SqT K H A.a_EVENTS_k8_0 [.str "keymap", .ref A.a_EVENTS_k8_0_1]
  w_EVENTS_k8_0_1 : ∀ H : Hp, SqT K H A.a_EVENTS_k8_0_1 [.str "text"]
  w_EVENTS_k8_1 : ∀ H : Hp, SqT K H A.a_EVENTS_k8_1 [.str "enter", .ref A.a_EVENTS_k8_1_1]
  w_EVENTS_k8_1_1 : ∀ H : Hp, SqT K H A.a_EVENTS_k8_1_1 [.str "object"]
  w_EVENTS_k8_2 : ∀ H : Hp, SqT K H A.a_EVENTS_k8_2 [.str "leave", .ref A.a_EVENTS_k8_2_1]
  w_EVENTS_k8_2_1 : ∀ H : Hp, SqT K H A.a_EVENTS_k8_2_1 [.str "object"]
  w_EVENTS_k8_3 : ∀ H : Hp, SqT K H A.a_EVENTS_k8_3 [.str "key", .ref A.a_EVENTS_k8_3_1]
  w_EVENTS_k8_3_1 : ∀ H : Hp, SqT K H A.a_EVENTS_k8_3_1 [.str "uint", .str "uint", .str "uint", .str "uint"]
  w_EVENTS_k8_4 : ∀ H : Hp, SqT K H A.a_EVENTS_k8_4 [.str "symbol", .ref A.a_EVENTS_k8_4_1]
  w_EVENTS_k8_4_1 : ∀ H : Hp, SqT K H A.a_EVENTS_k8_4_1 [.str "text", .str "text", .str "uint"]
  w_EVENTS_k9 : ∀ H : Hp, SqT K H A.a_EVENTS_k9 [.ref A.a_EVENTS_k9_0, .ref A.a_EVENTS_k9_1, .ref A.a_EVENTS_k9_2, .ref A.a_EVENTS_k9_3, .ref A.a_EVENTS_k9_4, .ref A.a_EVENTS_k9_5]
  w_EVENTS_k9_0 : ∀ H : Hp, SqT K H A.a_EVENTS_k9_0 [.str "offer", .ref A.a_EVENTS_k9_0_1]
  w_EVENTS_k9_0_1 : ∀ H : Hp, SqT K H A.a_EVENTS_k9_0_1 [.str "new", .str "uint"]
  w_EVENTS_k9_1 : ∀ H : Hp, SqT K H A.a_EVENTS_k9_1 [.str "hover", .ref A.a_EVENTS_k9_1_1]
  w_EVENTS_k9_1_1 : ∀ H : Hp, SqT K H A.a_EVENTS_k9_1_1 [.str "object", .str "int", .str "int"]
  w_EVENTS_k9_2 : ∀ H : Hp, SqT K H A.a_EVENTS_k9_2 [.str "hover_kind", .ref A.a_EVENTS_k9_2_1]
  w_EVENTS_k9_2_1 : ∀ H : Hp, SqT K H A.a_EVENTS_k9_2_1 [.str "text"]
  w_EVENTS_k9_3 : ∀ H : Hp, SqT K H A.a_EVENTS_k9_3 [.str "moved", .ref A.a_EVENTS_k9_3_1]
  w_EVENTS_k9_3_1 : ∀ H : Hp, SqT K H A.a_EVENTS_k9_3_1 [.str "uint", .str "int", .str "int"]
  w_EVENTS_k9_4 : ∀ H : Hp, SqT K H A.a_EVENTS_k9_4 [.str "away", .ref A.a_EVENTS_k9_4_1]
  w_EVENTS_k9_4_1 : ∀ H : Hp, SqT K H A.a_EVENTS_k9_4_1 []
  w_EVENTS_k9_5 : ∀ H : Hp, SqT K H A.a_EVENTS_k9_5 [.str "ended", .ref A.a_EVENTS_k9_5_1]
  w_EVENTS_k9_5_1 : ∀ H : Hp, SqT K H A.a_EVENTS_k9_5_1 []
  w_EVENTS_k10 : ∀ H : Hp, SqT K H A.a_EVENTS_k10 [.ref A.a_EVENTS_k10_0, .ref A.a_EVENTS_k10_1]
  w_EVENTS_k10_0 : ∀ H : Hp, SqT K H A.a_EVENTS_k10_0 [.str "kind", .ref A.a_EVENTS_k10_0_1]
  w_EVENTS_k10_0_1 : ∀ H : Hp, SqT K H A.a_EVENTS_k10_0_1 [.str "text", .str "uint"]
  w_EVENTS_k10_1 : ∀ H : Hp, SqT K H A.a_EVENTS_k10_1 [.str "part", .ref A.a_EVENTS_k10_1_1]
  w_EVENTS_k10_1_1 : ∀ H : Hp, SqT K H A.a_EVENTS_k10_1_1 [.str "text", .str "uint", .str "octets"]
  w_EVENTS_k11 : ∀ H : Hp, SqT K H A.a_EVENTS_k11 [.ref A.a_EVENTS_k11_0, .ref A.a_EVENTS_k11_1, .ref A.a_EVENTS_k11_2]
  w_EVENTS_k11_0 : ∀ H : Hp, SqT K H A.a_EVENTS_k11_0 [.str "allowed", .ref A.a_EVENTS_k11_0_1]
  w_EVENTS_k11_0_1 : ∀ H : Hp, SqT K H A.a_EVENTS_k11_0_1 [.str "uint", .str "uint"]
  w_EVENTS_k11_1 : ∀ H : Hp, SqT K H A.a_EVENTS_k11_1 [.str "refused", .ref A.a_EVENTS_k11_1_1]
  w_EVENTS_k11_1_1 : ∀ H : Hp, SqT K H A.a_EVENTS_k11_1_1 []
  w_EVENTS_k11_2 : ∀ H : Hp, SqT K H A.a_EVENTS_k11_2 [.str "rows", .ref A.a_EVENTS_k11_2_1]
  w_EVENTS_k11_2_1 : ∀ H : Hp, SqT K H A.a_EVENTS_k11_2_1 [.str "uint", .str "octets"]
  w_EVENTS_k12 : ∀ H : Hp, SqT K H A.a_EVENTS_k12 [.ref A.a_EVENTS_k12_0, .ref A.a_EVENTS_k12_1, .ref A.a_EVENTS_k12_2]
  w_EVENTS_k12_0 : ∀ H : Hp, SqT K H A.a_EVENTS_k12_0 [.str "changed", .ref A.a_EVENTS_k12_0_1]
  w_EVENTS_k12_0_1 : ∀ H : Hp, SqT K H A.a_EVENTS_k12_0_1 [.str "uint"]
  w_EVENTS_k12_1 : ∀ H : Hp, SqT K H A.a_EVENTS_k12_1 [.str "gone", .ref A.a_EVENTS_k12_1_1]
  w_EVENTS_k12_1_1 : ∀ H : Hp, SqT K H A.a_EVENTS_k12_1_1 []
  w_EVENTS_k12_2 : ∀ H : Hp, SqT K H A.a_EVENTS_k12_2 [.str "part", .ref A.a_EVENTS_k12_2_1]
  w_EVENTS_k12_2_1 : ∀ H : Hp, SqT K H A.a_EVENTS_k12_2_1 [.str "uint", .str "octets"]
  w_EVENTS_k13 : ∀ H : Hp, SqT K H A.a_EVENTS_k13 [.ref A.a_EVENTS_k13_0, .ref A.a_EVENTS_k13_1]
  w_EVENTS_k13_0 : ∀ H : Hp, SqT K H A.a_EVENTS_k13_0 [.str "there", .ref A.a_EVENTS_k13_0_1]
  w_EVENTS_k13_0_1 : ∀ H : Hp, SqT K H A.a_EVENTS_k13_0_1 []
  w_EVENTS_k13_1 : ∀ H : Hp, SqT K H A.a_EVENTS_k13_1 [.str "gone", .ref A.a_EVENTS_k13_1_1]
  w_EVENTS_k13_1_1 : ∀ H : Hp, SqT K H A.a_EVENTS_k13_1_1 []
  clCaptures : Cls K A.CCaptures
  gCaptures : mg "Captures" = some (.ref A.CCaptures)
  nCaptures__pictures : NoAttr K A.CCaptures "_pictures"
  clFetches : Cls K A.CFetches
  gFetches : mg "Fetches" = some (.ref A.CFetches)
  nFetches__fetches : NoAttr K A.CFetches "_fetches"
  nFetches__watches : NoAttr K A.CFetches "_watches"
  clOffers : Cls K A.COffers
  gOffers : mg "Offers" = some (.ref A.COffers)
  nOffers__transfers : NoAttr K A.COffers "_transfers"
  nOffers__kept : NoAttr K A.COffers "_kept"
  nOffers__is_hovered : NoAttr K A.COffers "_is_hovered"
  clSources : Cls K A.CSources
  gSources : mg "Sources" = some (.ref A.CSources)
  nSources__sources : NoAttr K A.CSources "_sources"
  clHoldings : Cls K A.CHoldings
  gHoldings : mg "Holdings" = some (.ref A.CHoldings)
  nHoldings__sources : NoAttr K A.CHoldings "_sources"
  nHoldings__offers : NoAttr K A.CHoldings "_offers"
  nHoldings__captures : NoAttr K A.CHoldings "_captures"
  nHoldings__fetches : NoAttr K A.CHoldings "_fetches"
  nHoldings__sent_names : NoAttr K A.CHoldings "_sent_names"
  clReply : Cls K A.CReply
  gReply : mg "Reply" = some (.ref A.CReply)
  nReply_told : NoAttr K A.CReply "told"
  nReply_ended : NoAttr K A.CReply "ended"
  nReply_wishes : NoAttr K A.CReply "wishes"
  nReply_applied : NoAttr K A.CReply "applied"
  gBadMessage : mg "BadMessage" = some (.ref A.CBadMessage)
  xBadMessage : PySem.W.excIn K A.CBadMessage [.type "ValueError", .type "Exception", .type "BaseException", .type "object"] "ValueError.__new__" = true
  kBadMessage : PySem.W.keepIn K (.ref A.CBadMessage) = true
  bxBadMessage : PySem.W.subIn K (.ref A.CBadMessage) (.type "BaseException") = some true
  txBadMessage : PySem.W.typeIn K (.ref A.CBadMessage) = some (.type "type")
  exBadMessage : PySem.W.exmOne K (.ref A.CBadMessage) (.ref A.CBadMessage) = some true
  gMessageTooLong : mg "MessageTooLong" = some (.ref A.CMessageTooLong)
  xMessageTooLong : PySem.W.excIn K A.CMessageTooLong [.type "ValueError", .type "Exception", .type "BaseException", .type "object"] "ValueError.__new__" = true
  kMessageTooLong : PySem.W.keepIn K (.ref A.CMessageTooLong) = true
  bxMessageTooLong : PySem.W.subIn K (.ref A.CMessageTooLong) (.type "BaseException") = some true
  txMessageTooLong : PySem.W.typeIn K (.ref A.CMessageTooLong) = some (.type "type")
  exMessageTooLong : PySem.W.exmOne K (.ref A.CMessageTooLong) (.ref A.CMessageTooLong) = some true
structure Dic (w : World) (K : PySem.W.Frag) (A : Adr) : Prop where
  d_EVENTS_k0 : KDct K w A.a_EVENTS "display" (.ref A.a_EVENTS_k0)
  d_EVENTS_k1 : KDct K w A.a_EVENTS "callback" (.ref A.a_EVENTS_k1)
  d_EVENTS_k2 : KDct K w A.a_EVENTS "registry" (.ref A.a_EVENTS_k2)
  d_EVENTS_k3 : KDct K w A.a_EVENTS "buffer" (.ref A.a_EVENTS_k3)
  d_EVENTS_k4 : KDct K w A.a_EVENTS "output" (.ref A.a_EVENTS_k4)
  d_EVENTS_k5 : KDct K w A.a_EVENTS "window" (.ref A.a_EVENTS_k5)
  d_EVENTS_k6 : KDct K w A.a_EVENTS "popup" (.ref A.a_EVENTS_k6)
  d_EVENTS_k7 : KDct K w A.a_EVENTS "pointer" (.ref A.a_EVENTS_k7)
  d_EVENTS_k8 : KDct K w A.a_EVENTS "keyboard" (.ref A.a_EVENTS_k8)
  d_EVENTS_k9 : KDct K w A.a_EVENTS "transfer" (.ref A.a_EVENTS_k9)
  d_EVENTS_k10 : KDct K w A.a_EVENTS "offer" (.ref A.a_EVENTS_k10)
  d_EVENTS_k11 : KDct K w A.a_EVENTS "capture" (.ref A.a_EVENTS_k11)
  d_EVENTS_k12 : KDct K w A.a_EVENTS "fetch" (.ref A.a_EVENTS_k12)
  d_EVENTS_k13 : KDct K w A.a_EVENTS "watch" (.ref A.a_EVENTS_k13)
section
variable {P : Program} {w : World} {K : PySem.W.Frag} {mg : Str → Option Value} {base : Heap} {A : Adr}
/-! ### common: tests, errors, small words -/
theorem exm_self {K : PySem.W.Frag} {S : Addr} (h1 : PySem.W.subIn K (.ref S) (.type "BaseException") = some true) (h2 : PySem.W.isClsIn K S = true) (h3 : PySem.W.typeIn K (.ref S) = some (.type "type")) (h4 : PySem.W.subIn K (.ref S) (.ref S) = some true) :
    PySem.W.exmOne K (.ref S) (.ref S) = some true := by
  have g1 : (PySem.W.subIn K (.ref S) (.type "BaseException") == some true) = true := by rw [h1]; rfl
  have g0 : (PySem.W.clsIn K S).isSome = true := h2
  have g2 : ((PySem.W.clsIn K S).isSome && PySem.W.typeIn K (.ref S) == some (.type "type")) = true := by rw [g0, h3]; rfl
  show (if (PySem.W.subIn K (.ref S) (.type "BaseException") == some true) = true then (if ((PySem.W.clsIn K S).isSome && PySem.W.typeIn K (.ref S) == some (.type "type")) = true then PySem.W.subIn K (.ref S) (.ref S) else none) else none) = some true
  rw [if_pos g1, if_pos g2]
  exact h4
theorem exm_cross {K : PySem.W.Frag} {S R : Addr} {b : Bool} (h1 : PySem.W.subIn K (.ref S) (.type "BaseException") = some true) (h2 : PySem.W.isClsIn K S = true) (h3 : PySem.W.typeIn K (.ref S) = some (.type "type")) (h4 : PySem.W.subIn K (.ref R) (.ref S) = some b) :
    PySem.W.exmOne K (.ref R) (.ref S) = some b := by
  have g1 : (PySem.W.subIn K (.ref S) (.type "BaseException") == some true) = true := by rw [h1]; rfl
  have g0 : (PySem.W.clsIn K S).isSome = true := h2
  have g2 : ((PySem.W.clsIn K S).isSome && PySem.W.typeIn K (.ref S) == some (.type "type")) = true := by rw [g0, h3]; rfl
  show (if (PySem.W.subIn K (.ref S) (.type "BaseException") == some true) = true then (if ((PySem.W.clsIn K S).isSome && PySem.W.typeIn K (.ref S) == some (.type "type")) = true then PySem.W.subIn K (.ref R) (.ref S) else none) else none) = some b
  rw [if_pos g1, if_pos g2]
  exact h4
/-- the law's own promise -/
def sp_law (K : PySem.W.Frag) : Sp := fun vs H Q _ => ∃ (a : Addr) (ns : List Int), vs = [.ref a] ∧ SqL K H a (ns.map V.int) ∧ ns.length ≤ 63 ∧ ∀ H', Q (.bl true) H'
theorem iteP {p A B : Prop} [Decidable p] (h1 : p → A) (h2 : ¬ p → B) : if decide p = true then A else B := by
  by_cases h : p
  · rw [decide_eq_true h]; exact iteT (h1 h)
  · rw [decide_eq_false h]; exact iteF (h2 h)
theorem iteN {p A B : Prop} [Decidable p] (h1 : ¬ p → A) (h2 : p → B) : if (!decide p) = true then A else B := by
  by_cases h : p
  · rw [decide_eq_true h]; exact iteF (h2 h)
  · rw [decide_eq_false h]; exact iteT (h1 h)
theorem iteEq {i j : Int} {A B : Prop} (h1 : i = j → A) (h2 : i ≠ j → B) : if decide (V.int i = V.int j) = true then A else B :=
  iteP (fun h => h1 (V.int.inj h)) (fun h => h2 fun e => h (congrArg V.int e))
theorem iteNe {i j : Int} {A B : Prop} (h1 : i ≠ j → A) (h2 : i = j → B) : if (!decide (V.int i = V.int j)) = true then A else B :=
  iteN (fun h => h1 fun e => h (congrArg V.int e)) (fun h => h2 (V.int.inj h))
theorem if_t {b : Bool} {A B : Prop} (e : b = true) (h : A) : if b = true then A else B := by rw [if_pos e]; exact h
theorem if_f {b : Bool} {A B : Prop} (e : b = false) (h : B) : if b = true then A else B := by rw [e]; exact iteF h
theorem if_b {b : Bool} {A B : Prop} (h1 : b = true → A) (h2 : b = false → B) : if b = true then A else B := by
  cases b with
  | true => exact iteT (h1 rfl)
  | false => exact iteF (h2 rfl)
theorem same_upd {H : Hp} {p : Addr} {o : HO} (h : H p = none) : Same H (upd H p o) := fun b x e => by
  rw [upd_ne (ne_of_none e h)]
  exact e
theorem len_line {n : Nat} (h : n ≤ 100000) : n ≤ sizeLine := Nat.le_trans h (by decide)
theorem lt_line {n : Nat} (h : n < 100000) : n < sizeLine := Nat.lt_of_lt_of_le h (by decide)
local macro_rules | `(tactic| walk_at "rd") => `(tactic| repeat (first
  | refine ⟨_, rfl, ?_⟩
  | refine ⟨_, _, rfl, rfl, ?_⟩
  | refine ⟨rfl, ?_⟩
  | refine Or.inl ⟨_, rfl, ?_⟩
  | refine ⟨(by show (0 : Int) < _; decide), ?_⟩
  | refine ⟨(⟨by decide, by decide⟩ : CDiv _ _), ?_⟩
  | refine ⟨(Or.inl ⟨by decide, by decide⟩ : CMul _ _), ?_⟩
  | refine ⟨(Or.inr ⟨by decide, by decide⟩ : CMul _ _), ?_⟩))
/-! ### data that are compared -/
def Sh (n : Nat) (d : PyData) : Prop := d.canLay0 = true ∧ d.depth ≤ n
theorem Sh.mono {n m : Nat} {d : PyData} (h : Sh n d) (l : n ≤ m) : Sh m d := ⟨h.1, Nat.le_trans h.2 l⟩
theorem sh_all : ∀ {n : Nat} {ds : List PyData}, (∀ d ∈ ds, Sh n d) → PyData.canLayAll0 ds = true ∧ PyData.depthAll ds ≤ n
  | n, [], _ => ⟨by simp [PyData.canLayAll0], by simp [PyData.depthAll]⟩
  | n, d :: ds, h => by
    have h1 := h d List.mem_cons_self
    have h2 := sh_all fun e he => h e (List.mem_cons_of_mem _ he)
    refine ⟨?_, ?_⟩
    · simp only [PyData.canLayAll0, Bool.and_eq_true]; exact ⟨h1.1, h2.1⟩
    · simp only [PyData.depthAll]; exact Nat.max_le.mpr ⟨h1.2, h2.2⟩
theorem sh_list {n : Nat} {ds : List PyData} (h : ∀ d ∈ ds, Sh n d) : Sh (n + 1) (.list ds) := by
  have q := sh_all h
  exact ⟨by simp only [PyData.canLay0]; exact q.1, by simp only [PyData.depth]; exact Nat.succ_le_succ q.2⟩
theorem sh_tuple {n : Nat} {ds : List PyData} (h : ∀ d ∈ ds, Sh n d) : Sh (n + 1) (.tuple ds) := by
  have q := sh_all h
  exact ⟨by simp only [PyData.canLay0]; exact q.1, by simp only [PyData.depth]; exact Nat.succ_le_succ q.2⟩
theorem sh_int (i : Int) : Sh 0 (.int i) := ⟨by simp [PyData.canLay0], by simp [PyData.depth]⟩
theorem sh_bool (i : Bool) : Sh 0 (.bool i) := ⟨by simp [PyData.canLay0], by simp [PyData.depth]⟩
theorem sh_none : Sh 0 .none := ⟨by simp [PyData.canLay0], by simp [PyData.depth]⟩
theorem sh_str {s : Str} (h : PyData.strOk s = true) : Sh 0 (.str s) := ⟨by simp only [PyData.canLay0]; exact h, by simp [PyData.depth]⟩
theorem Sh.shaped {n : Nat} {d : PyData} (h : Sh n d) (l : n ≤ 64 := by decide) : SeqAt.shaped d = true := by
  show (d.canLay0 && decide (d.depth ≤ 64)) = true
  rw [h.1, decide_eq_true (Nat.le_trans h.2 l)]
  rfl
theorem Sh.self {n : Nat} {d : PyData} (h : Sh n d) : PyData.eqv d d = true := SeqAt.eqv_refl d h.1
def pInts (xs : List Int) : PyData := .list (xs.map PyData.int)
theorem sh_ints (xs : List Int) : Sh 1 (pInts xs) := sh_list fun d hd => by
  obtain ⟨i, _, rfl⟩ := List.mem_map.mp hd
  exact sh_int i
theorem dpall_ints {K : PySem.W.Frag} {H : Hp} : ∀ xs : List Int, DpAll K H (xs.map V.int) (xs.map PyData.int)
  | [] => .nil
  | x :: r => .cons (.int x) (dpall_ints r)
theorem dp_ints {K : PySem.W.Frag} {H : Hp} {p : Addr} {xs : List Int} (h : SqL K H p (xs.map V.int)) : Dp K H (.ref p) (pInts xs) := .lst h (dpall_ints xs)
/-! ### views: what is new, what stands -/
structure Ext (V H V' H' : Hp) : Prop where
  vv : Same V V'
  vh : Same V' H'
  hh : Same H H'
  nw : ∀ a, V' a ≠ none → V a ≠ none ∨ H a = none
theorem Ext.refl {V H : Hp} (h : Same V H) : Ext V H V H := ⟨Same.refl V, h, Same.refl H, fun _ h => Or.inl h⟩
theorem Ext.trans {V H V1 H1 V2 H2 : Hp} (a : Ext V H V1 H1) (b : Ext V1 H1 V2 H2) : Ext V H V2 H2 :=
  ⟨a.vv.trans b.vv, b.vh, a.hh.trans b.hh, fun x h => by
    rcases b.nw x h with q | q
    · exact a.nw x q
    · exact Or.inr (a.hh.free q)⟩
theorem none_of_same {V H : Hp} {p : Addr} (s : Same V H) (h : H p = none) : V p = none := s.free h
theorem Ext.new {V H : Hp} {p : Addr} {o : HO} (s : Same V H) (h : H p = none) : Ext V H (upd V p o) (upd H p o) :=
  ⟨same_upd (s.free h), fun b u e => by
    by_cases hb : b = p
    · subst hb; rw [upd_same] at e ⊢; exact e
    · rw [upd_ne hb] at e ⊢; exact s b u e, same_upd h, fun a e => by
    by_cases ha : a = p
    · subst ha; exact Or.inr h
    · rw [upd_ne ha] at e; exact Or.inl e⟩
/-- a new object that the view does not take in -/
theorem Ext.skip {V H : Hp} {p : Addr} {o : HO} (s : Same V H) (h : H p = none) : Ext V H V (upd H p o) :=
  ⟨Same.refl V, s.trans (same_upd h), same_upd h, fun _ e => Or.inl e⟩
theorem Ext.keepOut {V H V' H' : Hp} (x : Ext V H V' H') {D : Addr} (h : V D = none) (hd : H D ≠ none) : V' D = none := by
  cases e : V' D with
  | none => rfl
  | some o =>
    rcases x.nw D (by rw [e]; exact fun z => by cases z) with q | q
    · exact absurd h q
    · exact absurd q hd
/-- an object outside of the view changes -/
theorem Ext.poke {V H V' H' : Hp} (x : Ext V H V' H') {D : Addr} {o : HO} (hd : H D = none) (h : V' D = none) : Ext V H V' (upd H' D o) :=
  ⟨x.vv, fun b u e => by
    have hb : b ≠ D := fun z => by rw [z, h] at e; cases e
    rw [upd_ne hb]; exact x.vh b u e, fun b u e => by
    have hb : b ≠ D := ne_of_none e hd
    rw [upd_ne hb]; exact x.hh b u e, x.nw⟩
/-- the object at D, done, is taken in -/
theorem Ext.take {V H V' H' : Hp} (x : Ext V H V' H') {D : Addr} {o : HO} (hd : H D = none) (h : V' D = none) (e : H' D = some o) : Ext V H (upd V' D o) H' :=
  ⟨x.vv.trans (same_upd h), fun b u q => by
    by_cases hb : b = D
    · subst hb; rw [upd_same] at q; rw [e]; exact q
    · rw [upd_ne hb] at q; exact x.vh b u q, x.hh, fun a q => by
    by_cases ha : a = D
    · subst ha; exact Or.inr hd
    · rw [upd_ne ha] at q; exact x.nw a q⟩
theorem _root_.L2.Same.sqt {K : PySem.W.Frag} {H H' : Hp} {a : Addr} {xs : List V} (e : Same H H') (h : SqT K H a xs) : SqT K H' a xs := by
  rcases h with (h | ⟨o, h⟩) | h
  · exact .inl (.inl (e _ _ h))
  · exact .inl (.inr ⟨o, e _ _ h⟩)
  · exact .inr h
mutual
theorem dp_same {K : PySem.W.Frag} {H H' : Hp} (s : Same H H') : ∀ (d : PyData) (v : V), Dp K H v d → Dp K H' v d
  | .none, _, h => by cases h; exact .non
  | .bool b, _, h => by cases h; exact .bl b
  | .int i, _, h => by cases h; exact .int i
  | .str x, _, h => by cases h; exact .str x
  | .list ds, _, h => by
    cases h with
    | lst q r => exact .lst (s.seq q) (dpall_same s ds _ r)
  | .tuple ds, _, h => by
    cases h with
    | tup q r => exact .tup (s.sqt q) (dpall_same s ds _ r)
  | .dict _, _, h => by cases h
theorem dpall_same {K : PySem.W.Frag} {H H' : Hp} (s : Same H H') : ∀ (ds : List PyData) (vs : List V), DpAll K H vs ds → DpAll K H' vs ds
  | [], _, h => by cases h; exact .nil
  | d :: ds, _, h => by
    cases h with
    | cons q r => exact .cons (dp_same s d _ q) (dpall_same s ds _ r)
end
theorem _root_.L2.Dp.to {K : PySem.W.Frag} {H H' : Hp} {v : V} {d : PyData} (h : Dp K H v d) (s : Same H H') : Dp K H' v d := dp_same s d v h
theorem _root_.L2.DpAll.to {K : PySem.W.Frag} {H H' : Hp} {v : List V} {d : List PyData} (h : DpAll K H v d) (s : Same H H') : DpAll K H' v d := dpall_same s d v h
theorem dpall_len {K : PySem.W.Frag} {H : Hp} : ∀ {vs : List V} {ds : List PyData}, DpAll K H vs ds → vs.length = ds.length
  | _, [], h => by cases h; rfl
  | _, d :: ds, h => by
    cases h with
    | cons q r => exact congrArg (· + 1) (dpall_len r)
theorem dpall_get {K : PySem.W.Frag} {H : Hp} : ∀ {vs : List V} {ds : List PyData} {i : Nat} {v : V}, DpAll K H vs ds → vs[i]? = some v → ∃ d, ds[i]? = some d ∧ Dp K H v d
  | _, [], i, v, h, e => by cases h; cases e
  | _, d :: ds, i, v, h, e => by
    cases h with
    | cons q r =>
      match i, e with
      | 0, e => cases e; exact ⟨d, rfl, q⟩
      | i + 1, e => exact dpall_get (i := i) r e
theorem dpall_get' {K : PySem.W.Frag} {H : Hp} : ∀ {vs : List V} {ds : List PyData} {i : Nat} {d : PyData}, DpAll K H vs ds → ds[i]? = some d → ∃ v, vs[i]? = some v ∧ Dp K H v d
  | _, [], i, d, h, e => by cases e
  | _, d :: ds, i, d', h, e => by
    cases h with
    | cons q r =>
      match i, e with
      | 0, e => cases e; exact ⟨_, rfl, q⟩
      | i + 1, e => exact dpall_get' (i := i) r e
theorem dpall_app {K : PySem.W.Frag} {H : Hp} : ∀ {vs ws : List V} {ds es : List PyData}, DpAll K H vs ds → DpAll K H ws es → DpAll K H (vs ++ ws) (ds ++ es)
  | _, _, [], _, h, g => by cases h; exact g
  | _, _, d :: ds, _, h, g => by
    cases h with
    | cons q r => exact .cons q (dpall_app r g)
theorem dp_list {K : PySem.W.Frag} {H : Hp} {v : V} {ds : List PyData} (h : Dp K H v (.list ds)) : ∃ a xs, v = .ref a ∧ SqL K H a xs ∧ DpAll K H xs ds := by
  cases h with
  | lst q r => exact ⟨_, _, rfl, q, r⟩
theorem dp_tuple {K : PySem.W.Frag} {H : Hp} {v : V} {ds : List PyData} (h : Dp K H v (.tuple ds)) : ∃ a xs, v = .ref a ∧ SqT K H a xs ∧ DpAll K H xs ds := by
  cases h with
  | tup q r => exact ⟨_, _, rfl, q, r⟩
theorem dp_int {K : PySem.W.Frag} {H : Hp} {v : V} {i : Int} (h : Dp K H v (.int i)) : v = .int i := by cases h; rfl
theorem dp_str {K : PySem.W.Frag} {H : Hp} {v : V} {i : Str} (h : Dp K H v (.str i)) : v = .str i := by cases h; rfl
theorem dp_bool {K : PySem.W.Frag} {H : Hp} {v : V} {i : Bool} (h : Dp K H v (.bool i)) : v = .bl i := by cases h; rfl
/-! ### comprehensions over any walk -/
def fm {α : Type} (f : Nat → Option α) (n : Nat) : List α := (List.range n).filterMap f
theorem fm_succ {α : Type} (f : Nat → Option α) (n : Nat) : fm f (n + 1) = fm f n ++ (f n).toList := by
  unfold fm
  rw [List.range_succ, List.filterMap_append]
  congr 1
theorem fm_len {α : Type} (f : Nat → Option α) (n : Nat) : (fm f n).length ≤ n := by
  have h := List.length_filterMap_le f (List.range n)
  rw [List.length_range] at h
  exact h
structure LcInv (K : PySem.W.Frag) (V0 H0 : Hp) (D : Addr) (acc : List PyData) (H : Hp) : Prop where
  ex : ∃ V xs, Ext V0 H0 V H ∧ V D = none ∧ H D = some (.lst xs) ∧ DpAll K V xs acc
theorem LcInv.start {K : PySem.W.Frag} {V0 H0 : Hp} {D : Addr} (s : Same V0 H0) (hD : H0 D = none) : LcInv K V0 H0 D [] (upd H0 D (.lst [])) :=
  ⟨V0, [], Ext.skip s hD, s.free hD, upd_same, .nil⟩
theorem LcInv.done {K : PySem.W.Frag} {V0 H0 H : Hp} {D : Addr} {acc : List PyData} (hD : H0 D = none) (i : LcInv K V0 H0 D acc H) : ∃ U xs, Ext V0 H0 U H ∧ U D = some (.lst xs) ∧ DpAll K U xs acc ∧ Dp K U (.ref D) (.list acc) := by
  obtain ⟨V, xs, x, hv, hd, dp⟩ := i.ex
  exact ⟨_, xs, x.take hD hv hd, upd_same, dp.to (same_upd hv), .lst (SqL.of upd_same) (dp.to (same_upd hv))⟩
/-- one more item -/
theorem LcInv.push {K : PySem.W.Frag} {V0 H0 U H U' H' : Hp} {D : Addr} {acc : List PyData} {xs : List V} {y : V} {d : PyData} (hD : H0 D = none) (x : Ext V0 H0 U H) (hv : U D = none) (hd : H D = some (.lst xs)) (dp : DpAll K U xs acc)
    (x2 : Ext U H U' H') (e : Dp K U' y d) (hl : acc.length < 100000) :
    ∃ acc', H' D = some (.lst acc') ∧ acc'.length < sizeLine ∧ LcInv K V0 H0 D (acc ++ [d]) (upd H' D (.lst (acc' ++ [y]))) := by
  have hv' : U' D = none := x2.keepOut hv (by rw [hd]; exact fun z => by cases z)
  refine ⟨xs, x2.hh _ _ hd, lt_line (by rw [dpall_len dp]; exact hl), U', xs ++ [y], (x.trans x2).poke hD hv', hv', upd_same, dpall_app (dp.to x2.vv) (.cons e .nil)⟩
/-- a comprehension's reading over a walk that leaves the heap as it is: at turn i the item x, then f i: the data of what is put in, or none -/
theorem lc_dp0 {J : It} {n : Nat} {G : Hp → Prop} {Y : Nat → Hp → V → Hp → Prop} (wk : Walk J n G Y) {K : PySem.W.Frag} {V0 H0 : Hp} {D : Addr} {g : TG} {tt : TT} {te : TE} {vs : List Nat} {σ : St} {Qd : Hp → Prop} (f : Nat → Option PyData) (σ0 : St) (hσ : wipe σ vs = σ0) (s0 : Same V0 H0) (hD : H0 D = none) (hn : n < 100000)
    (hG : ∀ H, Same H0 H → G H) (hY : ∀ i H x H', Y i H x H' → H' = H)
    (hs : ∀ i x V H, i < n → Ext V0 H0 V H → Y i H x H → ∀ (Qy : VK) (Qn : Hp → Prop), (∀ d y V' H', f i = some d → Ext V H V' H' → Dp K V' y d → Qy y H') → (f i = none → ∀ V' H', Ext V H V' H' → Qn H') →
      g x σ0 H fun σ2 H2 => wipe σ2 vs = σ0 ∧ tt σ2 H2 fun b H3 => if b = true then te σ2 H3 Qy else Qn H3)
    (hd : ∀ (U H : Hp) (xs : List V), Ext V0 H0 U H → U D = none → H D = some (.lst xs) → DpAll K U xs (fm f n) → Qd H) :
    ∃ W : Nat → Nat → Hp → Prop, (∃ m, W 0 m (upd H0 D (.lst []))) ∧ ∀ i m H, W i m H →
      (J.stop i H ∧ Qd H) ∨ (J.go i H ∧ ∃ Nx : Hp → Prop, (∀ H', Nx H' → ∃ m', m' < m ∧ W (i + 1) m' H') ∧ ∀ x H', J.yld i H x H' → g x (wipe σ vs) H' fun σ2 H2 => wipe σ2 vs = wipe σ vs ∧ tt σ2 H2 fun b H3 =>
        if b = true then te σ2 H3 fun y H4 => ∃ acc, H4 D = some (.lst acc) ∧ acc.length < sizeLine ∧ Nx (upd H4 D (.lst (acc ++ [y]))) else Nx H3) := by
  subst hσ
  refine lc_it wk (fun i H => LcInv K V0 H0 D (fm f i) H) (LcInv.start s0 hD) (fun i H _ p => ?_) (fun i x H H' hi p y => ?_) (fun H p => ?_)
  · obtain ⟨V, xs, x, _⟩ := p.ex
    exact hG H x.hh
  · obtain ⟨V, xs, x0, hv, hdd, dp⟩ := p.ex
    obtain rfl := hY i H x H' y
    refine hs i x V H' hi x0 y _ _ (fun d y' V' H4 e x2 dy => ?_) (fun e V' H4 x2 => ?_)
    · have hl : (fm f i).length < 100000 := Nat.lt_of_le_of_lt (fm_len f i) (Nat.lt_trans hi hn)
      obtain ⟨acc', a1, a2, a3⟩ := LcInv.push hD x0 hv hdd dp x2 dy hl
      refine ⟨acc', a1, a2, ?_⟩
      rw [fm_succ, e]
      exact a3
    · have hv' : V' D = none := x2.keepOut hv (by rw [hdd]; exact fun z => by cases z)
      rw [fm_succ, e]
      show LcInv K V0 H0 D (fm f i ++ []) H4
      rw [List.append_nil]
      exact ⟨V', xs, x0.trans x2, hv', x2.hh _ _ hdd, dp.to x2.vv⟩
  · obtain ⟨U, xs, x, hv, hdd, dp⟩ := p.ex
    exact hd U H xs x hv hdd dp
/-- a comprehension's reading over a walk that leaves the heap as it is: at turn i the item x, then f i: the data of what is put in, or none -/
theorem lc_dp {J : It} {n : Nat} {G : Hp → Prop} {Y : Nat → Hp → V → Hp → Prop} (wk : Walk J n G Y) {K : PySem.W.Frag} {V0 H0 : Hp} {D : Addr} {g : TG} {tt : TT} {te : TE} {vs : List Nat} {σ : St} {Qd : Hp → Prop} (f : Nat → Option PyData) (σ0 : St) (hσ : wipe σ vs = σ0) (s0 : Same V0 H0) (hD : H0 D = none) (hn : n < 100000)
    (hG : ∀ H, Same H0 H → G H) (hY : ∀ i H x H', Y i H x H' → H' = H)
    (hs : ∀ i x V H, i < n → Ext V0 H0 V H → Y i H x H → ∀ (Qy : VK) (Qn : Hp → Prop), (∀ d y V' H', f i = some d → Ext V H V' H' → Dp K V' y d → Qy y H') → (f i = none → ∀ V' H', Ext V H V' H' → Qn H') →
      g x σ0 H fun σ2 H2 => wipe σ2 vs = σ0 ∧ tt σ2 H2 fun b H3 => if b = true then te σ2 H3 Qy else Qn H3)
    (hd : ∀ (U H : Hp) (xs : List V), Ext V0 H0 U H → U D = some (.lst xs) → DpAll K U xs (fm f n) → Dp K U (.ref D) (.list (fm f n)) → Qd H) :
    ∃ W : Nat → Nat → Hp → Prop, (∃ m, W 0 m (upd H0 D (.lst []))) ∧ ∀ i m H, W i m H →
      (J.stop i H ∧ Qd H) ∨ (J.go i H ∧ ∃ Nx : Hp → Prop, (∀ H', Nx H' → ∃ m', m' < m ∧ W (i + 1) m' H') ∧ ∀ x H', J.yld i H x H' → g x (wipe σ vs) H' fun σ2 H2 => wipe σ2 vs = wipe σ vs ∧ tt σ2 H2 fun b H3 =>
        if b = true then te σ2 H3 fun y H4 => ∃ acc, H4 D = some (.lst acc) ∧ acc.length < sizeLine ∧ Nx (upd H4 D (.lst (acc ++ [y]))) else Nx H3) := by
  refine lc_dp0 wk f σ0 hσ s0 hD hn hG hY hs fun U H xs x hv hdd dp => ?_
  exact hd _ H xs (x.take hD hv hdd) upd_same (dp.to (same_upd hv)) (.lst (SqL.of upd_same) (dp.to (same_upd hv)))
theorem fm_map {α β : Type} (f : α → β) : ∀ (xs : List α), fm (fun i => (xs[i]?).map f) xs.length = xs.map f := by
  intro xs
  have h : ∀ n, n ≤ xs.length → fm (fun i => (xs[i]?).map f) n = (xs.take n).map f := by
    intro n
    induction n with
    | zero => intro _; rfl
    | succ n ih =>
      intro hn
      rw [fm_succ, ih (by omega), List.getElem?_eq_getElem (by omega), List.take_succ_eq_append_getElem (by omega), List.map_append]
      rfl
  rw [h _ (Nat.le_refl _), List.take_length]

theorem lc2_outer {J : It} {n : Nat} {G : Hp → Prop} {Y : Nat → Hp → V → Hp → Prop} (wk : Walk J n G Y) {K : PySem.W.Frag} {V0 H0 : Hp} {D : Addr} {g : TG} {vs : List Nat} {σ : St} {body : St → Hp → (Hp → Prop) → Prop} {Qd : Hp → Prop} (F : Nat → List PyData) (σ0 : St) (hσ : wipe σ vs = σ0) (s0 : Same V0 H0) (hD : H0 D = none) (hF : F 0 = [])
    (hG : ∀ H, Same H0 H → G H) (hY : ∀ i H x H', Y i H x H' → H' = H)
    (hs : ∀ i x H, i < n → LcInv K V0 H0 D (F i) H → Y i H x H → ∀ Nx : Hp → Prop, (∀ H', LcInv K V0 H0 D (F (i + 1)) H' → Nx H') → g x σ0 H fun σ2 H2 => wipe σ2 vs = σ0 ∧ body σ2 H2 Nx)
    (hd : ∀ (U H : Hp) (xs : List V), Ext V0 H0 U H → U D = some (.lst xs) → DpAll K U xs (F n) → Dp K U (.ref D) (.list (F n)) → Qd H) :
    ∃ W : Nat → Nat → Hp → Prop, (∃ m, W 0 m (upd H0 D (.lst []))) ∧ ∀ i m H, W i m H →
      (J.stop i H ∧ Qd H) ∨ (J.go i H ∧ ∃ Nx : Hp → Prop, (∀ H', Nx H' → ∃ m', m' < m ∧ W (i + 1) m' H') ∧ ∀ x H', J.yld i H x H' → g x (wipe σ vs) H' fun σ2 H2 => wipe σ2 vs = wipe σ vs ∧ body σ2 H2 Nx) := by
  subst hσ
  refine ⟨fun i m H => m = n - i ∧ i ≤ n ∧ LcInv K V0 H0 D (F i) H, ⟨n, by simp, Nat.zero_le _, by rw [hF]; exact LcInv.start s0 hD⟩, ?_⟩
  rintro i m H ⟨rfl, hi, p⟩
  have sH : Same H0 H := by obtain ⟨_, _, x, _⟩ := p.ex; exact x.hh
  by_cases hlt : i < n
  · refine .inr ⟨wk.goes i H hlt (hG H sH), fun H' => LcInv K V0 H0 D (F (i + 1)) H', fun H' p' => ⟨n - (i + 1), by omega, rfl, hlt, p'⟩, fun x H' y => ?_⟩
    have y' := wk.yields i H x H' hlt (hG H sH) y
    obtain rfl := hY i H x H' y'
    exact hs i x H' hlt p y' _ fun _ h => h
  · have e : i = n := by omega
    subst e
    obtain ⟨U, xs, x, e1, e2, e3⟩ := p.done hD
    exact .inl ⟨wk.stops H (hG H sH), hd U H xs x e1 e2 e3⟩
theorem lc2_inner {J : It} {n : Nat} {G : Hp → Prop} {Y : Nat → Hp → V → Hp → Prop} (wk : Walk J n G Y) {K : PySem.W.Frag} {V0 H0 H4 : Hp} {D : Addr} {acc0 : List PyData} {g : TG} {tt : TT} {te : TE} {vs : List Nat} {σ : St} {Nx : Hp → Prop} (f : Nat → Option PyData) (σ0 : St) (hσ : wipe σ vs = σ0) (hD : H0 D = none)
    (inv : LcInv K V0 H0 D acc0 H4) (hn : acc0.length + n < 100000) (hG : ∀ H, Same H0 H → G H) (hY : ∀ i H x H', Y i H x H' → H' = H)
    (hs : ∀ i x V H, i < n → Ext V0 H0 V H → Y i H x H → ∀ (Qy : VK) (Qn : Hp → Prop), (∀ d y V' H', f i = some d → Ext V H V' H' → Dp K V' y d → Qy y H') → (f i = none → ∀ V' H', Ext V H V' H' → Qn H') →
      g x σ0 H fun σ2 H2 => wipe σ2 vs = σ0 ∧ tt σ2 H2 fun b H3 => if b = true then te σ2 H3 Qy else Qn H3)
    (hd : ∀ H, LcInv K V0 H0 D (acc0 ++ fm f n) H → Nx H) :
    ∃ W : Nat → Nat → Hp → Prop, (∃ m, W 0 m H4) ∧ ∀ i m H, W i m H →
      (J.stop i H ∧ Nx H) ∨ (J.go i H ∧ ∃ Nx1 : Hp → Prop, (∀ H', Nx1 H' → ∃ m', m' < m ∧ W (i + 1) m' H') ∧ ∀ x H', J.yld i H x H' → g x (wipe σ vs) H' fun σ2 H2 => wipe σ2 vs = wipe σ vs ∧ tt σ2 H2 fun b H3 =>
        if b = true then te σ2 H3 fun y H4 => ∃ acc, H4 D = some (.lst acc) ∧ acc.length < sizeLine ∧ Nx1 (upd H4 D (.lst (acc ++ [y]))) else Nx1 H3) := by
  subst hσ
  refine ⟨fun i m H => m = n - i ∧ i ≤ n ∧ LcInv K V0 H0 D (acc0 ++ fm f i) H, ⟨n, by simp, Nat.zero_le _, by rw [show fm f 0 = [] from rfl, List.append_nil]; exact inv⟩, ?_⟩
  rintro i m H ⟨rfl, hi, p⟩
  have sH : Same H0 H := by obtain ⟨_, _, x, _⟩ := p.ex; exact x.hh
  by_cases hlt : i < n
  · refine .inr ⟨wk.goes i H hlt (hG H sH), fun H' => LcInv K V0 H0 D (acc0 ++ fm f (i + 1)) H', fun H' p' => ⟨n - (i + 1), by omega, rfl, hlt, p'⟩, fun x H' y => ?_⟩
    have y' := wk.yields i H x H' hlt (hG H sH) y
    obtain rfl := hY i H x H' y'
    obtain ⟨V, xs, x0, hv, hdd, dp⟩ := p.ex
    refine hs i x V H' hlt x0 y' _ _ (fun d y' V' H4 e x2 dy => ?_) (fun e V' H4 x2 => ?_)
    · have hl : (acc0 ++ fm f i).length < 100000 := by have := fm_len f i; rw [List.length_append]; omega
      obtain ⟨acc', a1, a2, a3⟩ := LcInv.push hD x0 hv hdd dp x2 dy hl
      refine ⟨acc', a1, a2, ?_⟩
      rw [fm_succ, e, ← List.append_assoc]
      exact a3
    · have hv' : V' D = none := x2.keepOut hv (by rw [hdd]; exact fun z => by cases z)
      rw [fm_succ, e]
      show LcInv K V0 H0 D (acc0 ++ (fm f i ++ [])) H4
      rw [List.append_nil]
      exact ⟨V', xs, x0.trans x2, hv', x2.hh _ _ hdd, dp.to x2.vv⟩
  · have e : i = n := by omega
    subst e
    exact .inl ⟨wk.stops H (hG H sH), hd H p⟩
theorem fm_some {α : Type} (f : Nat → α) (n : Nat) : fm (fun i => some (f i)) n = (List.range n).map f := by
  induction n with
  | zero => rfl
  | succ n ih => rw [fm_succ, ih, List.range_succ, List.map_append]; rfl
theorem fl_take' {α : Type} {β : Type} (f : α → List β) : ∀ (xs : List α) (i : Nat) (x : α), xs[i]? = some x → (xs.take (i + 1)).flatMap f = (xs.take i).flatMap f ++ f x := by
  intro xs i x h
  obtain ⟨hi, e⟩ := List.getElem?_eq_some_iff.mp h
  rw [List.take_succ_eq_append_getElem hi, List.flatMap_append, e]
  show _ ++ (f x ++ []) = _
  rw [List.append_nil]
theorem fl_le' {α : Type} {β : Type} (f : α → List β) (xs : List α) (i : Nat) : ((xs.take i).flatMap f).length ≤ (xs.flatMap f).length := by
  have : xs.flatMap f = (xs.take i).flatMap f ++ (xs.drop i).flatMap f := by rw [← List.flatMap_append, List.take_append_drop]
  rw [this, List.length_append]; omega
/-! ### lists of ints, texts -/
theorem tyL {K : PySem.W.Frag} {H : Hp} {a : Addr} {xs : List V} (h : SqL K H a xs) : TyX K H (.ref a) (.type "list") := by
  rcases h with (h | ⟨o, h⟩) | ⟨o, its, n, h, c, _⟩
  · exact .base (.lst h)
  · exact .base (.frz h)
  · exact .kList h c
theorem tyT {K : PySem.W.Frag} {H : Hp} {a : Addr} {xs : List V} (h : SqT K H a xs) : TyX K H (.ref a) (.type "tuple") := by
  rcases h with (h | ⟨o, h⟩) | ⟨o, its, n, h, c, _⟩
  · exact .base (.tup h)
  · exact .fTuple h
  · exact .kTuple h c
theorem dp_intsV {K : PySem.W.Frag} {H : Hp} : ∀ {xs : List V} {is : List Int}, DpAll K H xs (is.map PyData.int) → xs = is.map V.int
  | _, [], r => by cases r; rfl
  | _, i :: is, r => by
    cases r with
    | cons r1 r2 => cases r1; rw [dp_intsV r2]; rfl
theorem dp_intsL {K : PySem.W.Frag} {H : Hp} {a : Addr} {is : List Int} (h : Dp K H (.ref a) (.list (is.map PyData.int))) : SqL K H a (is.map V.int) := by
  obtain ⟨a', xs, e, q, r⟩ := dp_list h
  cases e
  rw [← dp_intsV r]; exact q
theorem dp_strsV {K : PySem.W.Frag} {H : Hp} : ∀ {xs : List V} {is : List Str}, DpAll K H xs (is.map PyData.str) → xs = is.map V.str
  | _, [], r => by cases r; rfl
  | _, i :: is, r => by
    cases r with
    | cons r1 r2 => cases r1; rw [dp_strsV r2]; rfl
theorem dp_boolsV {K : PySem.W.Frag} {H : Hp} : ∀ {xs : List V} {is : List Bool}, DpAll K H xs (is.map PyData.bool) → xs = is.map V.bl
  | _, [], r => by cases r; rfl
  | _, i :: is, r => by
    cases r with
    | cons r1 r2 => cases r1; rw [dp_boolsV r2]; rfl
theorem dp_boolsL {K : PySem.W.Frag} {H : Hp} {a : Addr} {is : List Bool} (h : Dp K H (.ref a) (.list (is.map PyData.bool))) : SqL K H a (is.map V.bl) := by
  obtain ⟨a', xs, e, q, r⟩ := dp_list h
  cases e
  rw [← dp_boolsV r]; exact q
theorem size_eq (z : Str) : z.cps.size = z.cps.toList.length := by simp
theorem cps_at (z : Str) (i : Nat) : z.cps[i]? = z.cps.toList[i]? := by simp
theorem fm_list {α β : Type} (f : α → β) (xs : List α) (n : Nat) (h : n = xs.length) (g : Nat → Option β) (hg : ∀ i x, xs[i]? = some x → g i = some (f x)) : fm g n = xs.map f := by
  subst h
  rw [← fm_map f xs]
  unfold fm
  have : ∀ l : List Nat, (∀ i ∈ l, i < xs.length) → l.filterMap g = l.filterMap fun i => (xs[i]?).map f := by
    intro l
    induction l with
    | nil => intro _; rfl
    | cons i l ih =>
      intro hl
      have hi' := hl i List.mem_cons_self
      rw [List.filterMap_cons, List.filterMap_cons, hg i _ (List.getElem?_eq_getElem hi'), List.getElem?_eq_getElem hi', ih fun j hj => hl j (List.mem_cons_of_mem _ hj)]
      rfl
  exact this _ fun i hi => List.mem_range.mp hi
theorem rep_flat {α : Type} (v : α) : ∀ n : Nat, (List.replicate n [v]).flatten = List.replicate n v
  | 0 => rfl
  | n + 1 => by rw [List.replicate_succ, List.replicate_succ, List.flatten_cons, rep_flat v n]; rfl
/-- a list's object that is tracked, at p, new -/
structure NewL (H H' : Hp) (p : Addr) (xs : List V) : Prop where
  new : H p = none
  same : Same H H'
  at_ : H' p = some (.lst xs)
theorem NewL.ext {U H H' : Hp} {p : Addr} {xs : List V} (n : NewL H H' p xs) (s : Same U H) : Ext U H (upd U p (.lst xs)) H' :=
  ⟨same_upd (s.free n.new), fun b u e => by
    by_cases hb : b = p
    · subst hb; rw [upd_same] at e; rw [n.at_]; exact e
    · rw [upd_ne hb] at e; exact n.same _ _ (s b u e), n.same, fun a e => by
    by_cases ha : a = p
    · subst ha; exact Or.inr n.new
    · rw [upd_ne ha] at e; exact Or.inl e⟩
theorem str_app (x y : Str) : (x ++ y).cps.toList = x.cps.toList ++ y.cps.toList := Array.toList_append
theorem str_len_app (x y : Str) : (x ++ y).length = x.length + y.length := by
  show (x ++ y).cps.size = x.cps.size + y.cps.size
  rw [size_eq, str_app, List.length_append, ← size_eq, ← size_eq]
/-! ### _law_cell, _law_row -/
def lawCell (ns : List Int) (k : Nat) : Int :=
  let c := if 0 < ns.length then ns.getD (k % ns.length) 0 else 0
  if c < 0 then 1 - 2 * c else c
theorem lawCell_nn (ns : List Int) (k : Nat) : 0 ≤ lawCell ns k := by
  unfold lawCell
  simp only
  split <;> omega
def lawOne (c : Int) (k : Nat) : Int := (c * 48271 + (k : Int) * 69621 + 12345) % 2147483647
def lawTwo (o : Int) (k : Nat) : Int := (o * o + 16807 * (k : Int) + 7) % 2147483629
def lawRow (ns : List Int) (k : Nat) : Int :=
  if k < ns.length ∧ 1000000000 ≤ lawCell ns k then lawCell ns k
  else (lawTwo (lawOne (lawCell ns k) k) k * lawTwo (lawOne (lawCell ns k) k) k + lawOne (lawCell ns k) k) % 4294967291 + 4294967296 * (lawOne (lawCell ns k) k + 1)
theorem lawOne_b (c : Int) (k : Nat) : 0 ≤ lawOne c k ∧ lawOne c k < 2147483647 := by unfold lawOne; omega
theorem lawTwo_b (c : Int) (k : Nat) : 0 ≤ lawTwo c k ∧ lawTwo c k < 2147483629 := by
  unfold lawTwo
  generalize c * c + 16807 * (k : Int) + 7 = x
  omega
theorem lawRow_nn (ns : List Int) (k : Nat) : 0 ≤ lawRow ns k := by
  unfold lawRow
  have h1 := lawOne_b (lawCell ns k) k
  split
  · exact lawCell_nn ns k
  · generalize lawTwo (lawOne (lawCell ns k) k) k * lawTwo (lawOne (lawCell ns k) k) k + lawOne (lawCell ns k) k = x
    omega
def sp__law_cell (K : PySem.W.Frag) : Sp := fun vs H Q _ => ∃ (a : Addr) (ns : List Int) (k : Nat), vs = [.ref a, .int (k : Int)] ∧ SqL K H a (ns.map V.int) ∧ Q (.int (lawCell ns k)) H
theorem sc__law_cell : FnScope ["script", "k", "cell"] ["script", "k"] (defScope s__law_cell) := ⟨rfl, rfl, rfl, by decide +kernel, rfl, by decide +kernel, by decide +kernel⟩
theorem ok__law_cell (T : Txt K mg A) : FnOk P w K mg base CX0 1 A.f_law_cell A.d_law_cell ["script", "k"] (sp__law_cell K) := by
  refine T.F_law_cell.ok sc__law_cell (fun vs H Q E h => ?_) (fun cdv Ar outer s H vs Q E hr h => ?_)
  · obtain ⟨a, ns, k, rfl, _⟩ := h
    rfl
  · obtain ⟨a, ns, k, rfl, hS, q⟩ := h
    refine ⟨_, (pss_cons (ps_set (i := 2) sc__law_cell.nd rfl (Or.inl rfl) pe_int)
      (pss_cons (ps_if (pt_cmpR op_gt (pe_callB call_len_seq (by rfl) T.len PySem.boot_len (pa_cons (pv 0) pa_nil)) pe_int (nomark _))
      (pss_one (ps_set (i := 2) sc__law_cell.nd rfl (Or.inl rfl) (pe_ix ix_list (pv 0) (pe_op op_mod (pe_callTy call_int1 (by rfl) T.int (by decide +kernel) (pa_cons (pv 1) pa_nil)) (pe_callB call_len_seq (by rfl) T.len PySem.boot_len (pa_cons (pv 0) pa_nil))) (fun _ _ => rfl))))
      pss_nil)
      (pss_cons (ps_if (pt_cmpR op_lt (pv 2) pe_int (nomark _))
      (pss_one (ps_set (i := 2) sc__law_cell.nd rfl (Or.inl rfl) (pe_op op_sub pe_int (pe_op op_mul pe_int (pv 2)))))
      pss_nil)
      (pss_one (ps_ret (pv 2)))))), ?_⟩
    have two : ∀ (c : Int), (if c < 0 then 1 - 2 * c else c) = lawCell ns k → tSeq (tIfS (tTest (tOp (rI0 fun i j => .bl (decide (i < j))) (tVar 2) (tC (.int 0)))) (tAsg (tOp (rI0 fun i j => .int (i - j)) (tC (.int 1)) (tOp (rI CMul fun i j => .int (i * j)) (tC (.int 2)) (tVar 2))) (gName 2)) tNext) (tRet (tVar 2))
        { nx := fun _ H' => Q .non H', rt := Q } [some (.ref a), some (.int (k : Int)), some (.int c)] H := by
      intro c hc
      walk_at "rd"
      refine iteP (fun h => ?_) (fun h => ?_)
      · rw [if_pos h] at hc
        walk_at "rd"
        rw [← hc] at q; exact q
      · rw [if_neg h] at hc
        walk_at "rd"
        rw [← hc] at q; exact q
    refine ⟨.ref a, rfl, a, _, rfl, .inl hS, _, _, rfl, rfl, _, rfl, iteP (fun h => ?_) (fun h => ?_)⟩
    · have h0 : 0 < ns.length := by rw [List.length_map] at h; omega
      refine ⟨_, rfl, _, rfl, Or.inl ⟨_, rfl, ?_⟩⟩
      refine ⟨_, rfl, a, _, rfl, .inl hS, _, _, rfl, rfl, by show (0 : Int) < _; omega, a, _, _, .int (ns.getD (k % ns.length) 0), rfl, rfl, hS, ?_, ?_⟩
      · refine at_of (j := k % ns.length) ?_ ?_
        · rw [List.length_map]; exact (Int.natCast_emod _ _).symm
        · rw [List.getElem?_map, List.getElem?_eq_getElem (Nat.mod_lt _ h0), List.getD_eq_getElem?_getD, List.getElem?_eq_getElem (Nat.mod_lt _ h0)]; rfl
      · refine two _ ?_
        unfold lawCell; rw [if_pos h0]
    · have h0 : ¬ 0 < ns.length := by rw [List.length_map] at h; omega
      refine two _ ?_
      unfold lawCell; rw [if_neg h0]
def sp__law_row (K : PySem.W.Frag) : Sp := fun vs H Q _ => ∃ (a : Addr) (ns : List Int) (k : Nat), vs = [.ref a, .int (k : Int)] ∧ SqL K H a (ns.map V.int) ∧ Q (.int (lawRow ns k)) H
theorem sc__law_row : FnScope ["script", "k", "cell", "one", "two"] ["script", "k"] (defScope s__law_row) := ⟨rfl, rfl, rfl, by decide +kernel, rfl, by decide +kernel, by decide +kernel⟩
theorem ok__law_row (T : Txt K mg A) : FnOk P w K mg base CX0 2 A.f_law_row A.d_law_row ["script", "k"] (sp__law_row K) := by
  refine T.F_law_row.ok sc__law_row (fun vs H Q E h => ?_) (fun cdv Ar outer s H vs Q E hr h => ?_)
  · obtain ⟨a, ns, k, rfl, _⟩ := h
    rfl
  · obtain ⟨a, ns, k, rfl, hS, q⟩ := h
    refine ⟨_, (pss_cons (ps_set (i := 2) sc__law_row.nd rfl (Or.inl rfl) (pe_call (ok__law_cell T) (hr.mono (by decide)) rfl T.g_law_cell T.k_law_cell T.b_law_cell .nil pass0 (pa_cons (pv 0) (pa_cons (pv 1) pa_nil))))
      (pss_cons (ps_if (PW.pt (pw_and (pt_cmpR op_lt (pv 1) (pe_callB call_len_seq (by rfl) T.len PySem.boot_len (pa_cons (pv 0) pa_nil)) (nomark _)) (pw_and1 (pt_cmpR op_ge (pv 2) pe_int (nomark _)))))
      (pss_one (ps_ret (pv 2)))
      pss_nil)
      (pss_cons (ps_set (i := 3) sc__law_row.nd rfl (Or.inl rfl) (pe_op op_mod (pe_callTy call_int1 (by rfl) T.int (by decide +kernel) (pa_cons (pe_op op_add (pe_op op_add (pe_op op_mul (pv 2) pe_int) (pe_op op_mul (pv 1) pe_int)) pe_int) pa_nil)) pe_int))
      (pss_cons (ps_set (i := 4) sc__law_row.nd rfl (Or.inl rfl) (pe_op op_mod (pe_callTy call_int1 (by rfl) T.int (by decide +kernel) (pa_cons (pe_op op_add (pe_op op_add (pe_op op_mul (pv 3) (pv 3)) (pe_op op_mul pe_int (pv 1))) pe_int) pa_nil)) pe_int))
      (pss_one (ps_ret (pe_op op_add (pe_op op_mod (pe_callTy call_int1 (by rfl) T.int (by decide +kernel) (pa_cons (pe_op op_add (pe_op op_mul (pv 4) (pv 4)) (pv 3)) pa_nil)) pe_int) (pe_op op_mul pe_int (pe_op op_add (pv 3) pe_int))))))))), ?_⟩
    have b1 := lawOne_b (lawCell ns k) k
    have b2 := lawTwo_b (lawOne (lawCell ns k) k) k
    have m1 : CMul (lawOne (lawCell ns k) k) (lawOne (lawCell ns k) k) := Or.inl ⟨by omega, by omega⟩
    have m2 : CMul (lawTwo (lawOne (lawCell ns k) k) k) (lawTwo (lawOne (lawCell ns k) k) k) := Or.inl ⟨by omega, by omega⟩
    refine ⟨_, rfl, _, rfl, a, ns, k, rfl, hS, ?_⟩
    refine ⟨_, rfl, _, rfl, a, _, rfl, .inl hS, _, _, rfl, rfl, _, rfl, ?_⟩
    refine iteP (fun h => ?_) (fun h => ?_)
    · refine ⟨_, rfl, _, _, rfl, rfl, _, rfl, iteP (fun h2 => ?_) (fun h2 => ?_)⟩
      · have e : lawRow ns k = lawCell ns k := by unfold lawRow; rw [if_pos ⟨by rw [List.length_map] at h; omega, h2⟩]
        rw [e] at q
        exact ⟨_, rfl, q⟩
      · unfold lawRow at q
        rw [if_neg fun z => h2 z.2] at q
        walk_at "rd"
        refine ⟨m1, ?_⟩
        walk_at "rd"
        refine ⟨m2, ?_⟩
        walk_at "rd"
        exact q
    · unfold lawRow at q
      rw [if_neg fun z => h (by rw [List.length_map]; omega)] at q
      walk_at "rd"
      refine ⟨m1, ?_⟩
      walk_at "rd"
      refine ⟨m2, ?_⟩
      walk_at "rd"
      exact q
/-! ### a word that goes on by itself -/
theorem iteVP {p A B : Prop} [Decidable p] (h1 : p → A) (h2 : ¬ p → B) : if p then A else B := by
  by_cases h : p
  · rw [if_pos h]; exact h1 h
  · rw [if_neg h]; exact h2 h
/-- a new tuple is handed back -/
def RetT (H : Hp) (Q : VK) (xs : List V) : Prop := ∀ p H', Same H H' → H' p = some (.tup xs) → Q (.ref p) H'
theorem RetT.go {H : Hp} {Q : VK} {xs : List V} (h : ∀ p H', Same H H' → H' p = some (.tup xs) → Q (.ref p) H') : RetT H Q xs := h
theorem ne_self {d e : PyData} {A B : Prop} (hs : SeqAt.shaped d = true) (h : d = e) (hB : B) : if (!PyData.eqv d e) = true then A else B := by
  subst h
  have h2 : (d.canLay0 && decide (d.depth ≤ 64)) = true := hs
  have : PyData.eqv d d = true := SeqAt.eqv_refl d (by rw [Bool.and_eq_true] at h2; exact h2.1)
  rw [this]
  exact iteF hB
theorem eq_self {d e : PyData} {A B : Prop} (hs : SeqAt.shaped d = true) (h : d = e) (hA : A) : if PyData.eqv d e = true then A else B := by
  subst h
  have h2 : (d.canLay0 && decide (d.depth ≤ 64)) = true := hs
  have : PyData.eqv d d = true := SeqAt.eqv_refl d (by rw [Bool.and_eq_true] at h2; exact h2.1)
  rw [this]
  exact iteT hA
theorem t_ne {K : PySem.W.Frag} {x y : V} {H : Hp} {Q : VK} {d e : PyData} (h1 : Dp K H x d) (h2 : Dp K H y e) (s1 : SeqAt.shaped d = true) (s2 : SeqAt.shaped e = true) (q : Q (.bl (!PyData.eqv d e)) H) : rNeD K x y H Q := ⟨d, e, h1, h2, s1, s2, q⟩
theorem t_eq {K : PySem.W.Frag} {x y : V} {H : Hp} {Q : VK} {d e : PyData} (h1 : Dp K H x d) (h2 : Dp K H y e) (s1 : SeqAt.shaped d = true) (s2 : SeqAt.shaped e = true) (q : Q (.bl (PyData.eqv d e)) H) : rEqD K x y H Q := ⟨d, e, h1, h2, s1, s2, q⟩
/-! words that go on by themselves -/
local macro_rules | `(tactic| walk_at "sq") => `(tactic| first
  | exact SqT.of upd_same
  | exact SqL.of upd_same
  | assumption
  | exact SqT.of (by assumption)
  | exact SqL.of (by assumption)
  | (apply Same.sqt (same_upd (by assumption)); walk_at "sq")
  | (apply Same.seq (same_upd (by assumption)); walk_at "sq")
  | (apply Same.sqt (by assumption); walk_at "sq")
  | (apply Same.seq (by assumption); walk_at "sq"))
local macro_rules | `(tactic| walk_at "sm") => `(tactic| first
  | exact Same.refl _
  | assumption
  | (apply Same.trans _ (same_upd (by assumption)); walk_at "sm")
  | (apply Same.trans _ (by assumption); walk_at "sm"))
local macro_rules | `(tactic| walk_at "at") => `(tactic| first
  | exact atI_nat (j := 0) rfl
  | exact atI_nat (j := 1) rfl
  | exact atI_nat (j := 2) rfl
  | exact atI_nat (j := 3) rfl
  | exact atI_nat (j := 4) rfl
  | exact atI_nat (j := 5) rfl)
local macro_rules | `(tactic| walk_at "go1") => `(tactic| first
  | refine ⟨_, rfl, ?_⟩
  | refine ⟨_, _, rfl, rfl, ?_⟩
  | refine ⟨rfl, ?_⟩
  | refine Or.inl ⟨_, rfl, ?_⟩
  | refine ⟨(by show (0 : Int) < _; decide), ?_⟩
  | refine ⟨(⟨by decide, by decide⟩ : CDiv _ _), ?_⟩
  | refine ⟨(Or.inl ⟨by decide, by decide⟩ : CMul _ _), ?_⟩
  | refine ⟨(Or.inr ⟨by decide, by decide⟩ : CMul _ _), ?_⟩
  | refine ⟨_, _, rfl, ?_⟩
  | refine ⟨_, _, _, rfl, ?_⟩
  | refine ⟨_, _, _, _, rfl, ?_⟩
  | (refine And.intro (a := (0 : Int) ≤ _) ?_ ?_; focus omega)
  | (refine And.intro (a := _ ≤ sizeLine) ?_ (fun p hp => ?_); (focus (exact len_line (Nat.le_of_ble_eq_true rfl))))
  | refine RetT.go (fun p H' s e => ?_)
  | refine if_t rfl ?_
  | refine if_f rfl ?_
  | refine ⟨_, _, rfl, (by walk_at "sq"), rfl, ?_⟩
  | refine ⟨_, _, rfl, Or.inl (by walk_at "sq"), ?_⟩
  | refine ⟨_, _, rfl, Or.inr (by walk_at "sq"), ?_⟩
  | refine ⟨_, _, _, _, rfl, rfl, (by walk_at "sq"), (by walk_at "at"), ?_⟩
  | refine ⟨_, _, rfl, (by walk_at "sq"), (by show ¬(HT.sIx 4 0 (some 2) = 0 ∧ HT.sIx 4 4 none = 4); decide), fun p hp => ?_⟩
  | refine ⟨_, _, _, _, rfl, rfl, (by walk_at "sq"), (by walk_at "sq"), (by intro h; cases h), len_line (Nat.le_of_ble_eq_true rfl), (fun h => by cases h), fun _ p hp => ?_⟩)
local macro_rules | `(tactic| walk_at "go") => `(tactic| repeat walk_at "go1")
local macro_rules | `(tactic| walk_at "dps") => `(tactic| first
  | exact DpAll.nil
  | (apply DpAll.cons; (focus (walk_at "dp")); (focus (walk_at "dps"))))
local macro_rules | `(tactic| walk_at "dp") => `(tactic| first
  | exact Dp.int _
  | exact Dp.bl _
  | exact Dp.str _
  | exact Dp.non
  | (apply Dp.tup; (focus (walk_at "sq")); (focus (walk_at "dps")))
  | (apply Dp.lst; (focus (walk_at "sq")); (focus (walk_at "dps"))))
local macro_rules | `(tactic| walk_at "sh") => `(tactic| (show (PyData.canLay0 _ && decide (PyData.depth _ ≤ 64)) = true; simp [PyData.canLay0, PyData.canLayAll0, PyData.depth, PyData.depthAll]))
/-- a deep comparison: what is left is the if -/
local macro_rules | `(tactic| walk_at "ne") => `(tactic| (apply t_ne; (focus (walk_at "dp")); (focus (walk_at "dp")); (focus (walk_at "sh")); (focus (walk_at "sh")); refine ⟨_, rfl, ?_⟩))
local macro_rules | `(tactic| walk_at "neS") => `(tactic| (walk_at "ne"; refine ne_self ?_ ?_ ?_; (focus (walk_at "sh"))))
/-! ### more words -/
local macro_rules | `(tactic| walk_at "go2") => `(tactic| first
  | walk_at "go1"
  | refine ⟨(⟨by omega, by omega⟩ : CDiv _ _), ?_⟩
  | refine ⟨(Or.inl ⟨by omega, by omega⟩ : CMul _ _), ?_⟩
  | refine ⟨(Or.inr ⟨by omega, by omega⟩ : CMul _ _), ?_⟩
  | refine ⟨(by show (0 : Int) < _; omega), ?_⟩)
local macro_rules | `(tactic| walk_at "gx") => `(tactic| repeat walk_at "go2")
/-! ### is_integer, number_octets -/
def sp_is_integer (K : PySem.W.Frag) : Sp := fun vs H Q _ => ∃ (i lo hi : Int), vs = [.int i, .int lo, .int hi] ∧ Q (.bl (decide (lo ≤ i ∧ i ≤ hi))) H
theorem sc_is_integer : FnScope ["value", "least", "greatest"] ["value", "least", "greatest"] (defScope s_is_integer) := ⟨rfl, rfl, rfl, by decide +kernel, rfl, by decide +kernel, by decide +kernel⟩
theorem ok_is_integer (T : Txt K mg A) : FnOk P w K mg base CX0 1 A.fis_integer A.dis_integer ["value", "least", "greatest"] (sp_is_integer K) := by
  refine T.Fis_integer.ok sc_is_integer (fun vs H Q E h => ?_) (fun cdv Ar outer s H vs Q E hr h => ?_)
  · obtain ⟨i, lo, hi, rfl, _⟩ := h
    rfl
  · obtain ⟨i, lo, hi, rfl, q⟩ := h
    refine ⟨_, (pss_one (ps_ret (pe_and (pe_callB call_isi (by rfl) T.isinstance (by decide +kernel) (pa_cons (pv 0) (pa_cons (pe_bltn (v := .ty "int") (by rfl) T.int (by decide +kernel) rfl) pa_nil))) (pe_and (pe_not (pe_callB call_isi (by rfl) T.isinstance (by decide +kernel) (pa_cons (pv 0) (pa_cons (pe_bltn (v := .ty "bool") (by rfl) T.bool (by decide +kernel) rfl) pa_nil)))) (pe_one (pe_chain op_le op_le (pv 1) (pv 0) (pv 2))))))), ?_⟩
    refine ⟨_, rfl, .int i, .ty "int", .type "int", .type "int", true, rfl, .ty _, .base (.int _), kit_ty (by decide +kernel), _, rfl, iteT ?_⟩
    refine ⟨_, rfl, .int i, .ty "bool", .type "int", .type "bool", false, rfl, .ty _, .base (.int _), kit_ty (by decide +kernel), _, rfl, _, rfl, iteT ?_⟩
    refine ⟨_, rfl, _, rfl, _, _, rfl, rfl, _, rfl, iteP (fun h => ?_) (fun h => ?_)⟩
    · refine ⟨_, rfl, _, _, rfl, rfl, ?_⟩
      have e : decide (lo ≤ i ∧ i ≤ hi) = decide (i ≤ hi) := by
        by_cases c : i ≤ hi
        · rw [decide_eq_true c, decide_eq_true ⟨h, c⟩]
        · rw [decide_eq_false c, decide_eq_false fun z => c z.2]
      rw [e] at q
      exact q
    · rw [decide_eq_false fun z => h z.1] at q
      exact q
def octs (n : Int) (c : Nat) : List Int := (List.range c).map fun k => n / 2 ^ (8 * k) % 256
theorem octs_len (n : Int) (c : Nat) : (octs n c).length = c := by unfold octs; rw [List.length_map, List.length_range]
theorem octs_succ (n : Int) (c : Nat) : octs n (c + 1) = octs n c ++ [n / 2 ^ (8 * c) % 256] := by
  unfold octs; rw [List.range_succ, List.map_append]; rfl
theorem and255 {x : Int} (h : 0 ≤ x) : Builtin.bitAnd x 255 = x % 256 := Bits.bitAnd_mask 8 h
/-- number_octets(n, c), n not negative, c small: a new list -/
def sp_number_octets (K : PySem.W.Frag) : Sp := fun vs H Q _ => ∃ (n : Int) (c : Nat), vs = [.int n, .int (c : Int)] ∧ 0 ≤ n ∧ c ≤ 1000 ∧
  ∀ p H', H p = none → Same H H' → H' p = some (.lst ((octs n c).map V.int)) → Q (.ref p) H'
theorem sc_number_octets : FnScope ["number", "count", "place"] ["number", "count"] (defScope s_number_octets) := ⟨rfl, rfl, rfl, by decide +kernel, rfl, by decide +kernel, by decide +kernel⟩
theorem ok_number_octets (T : Txt K mg A) : FnOk P w K mg base CX0 1 A.fnumber_octets A.dnumber_octets ["number", "count"] (sp_number_octets K) := by
  refine T.Fnumber_octets.ok sc_number_octets (fun vs H Q E h => ?_) (fun cdv Ar outer s H vs Q E hr h => ?_)
  · obtain ⟨n, c, rfl, _⟩ := h
    rfl
  · obtain ⟨n, c, rfl, hn, hc, q⟩ := h
    refine ⟨_, (pss_one (ps_ret (pe_lc (own := [("place", 2)]) (g := gName 2) (tt := tYes) rfl sc_number_octets.nd (pi_range1 (by rfl) T.range (pa_cons (pv 1) pa_nil)) (blkOk_by (own := [("place", 2)]) (N := ["number", "count", "place"]) (sc := defScope s_number_octets) (by decide +kernel)) (fun _ _ _ _ _ => (pg_name (i := 2) sc_number_octets.nd rfl (Or.inl rfl))) (fun _ _ _ _ _ => pts_nil) (fun _ _ _ _ _ => (pe_op op_and (pe_op op_shr (pv 0) (pe_op op_mul pe_int (pv 2))) pe_int))))), ?_⟩
    refine ⟨_, rfl, (c : Int), rfl, by omega, by omega, fun D hD => ?_⟩
    refine lc_range (lo := 0) (n := ((c : Int)).toNat) (fun i H' => Same H H' ∧ H' D = some (.lst ((octs n i).map V.int))) ⟨same_upd hD, upd_same⟩ ?_ ?_
    · rintro i H1 hi ⟨hs, he⟩
      refine ⟨rfl, _, rfl, _, rfl, _, _, rfl, rfl, Or.inl ⟨by decide, by decide⟩, _, _, rfl, rfl, by show (0 : Int) ≤ _; omega, _, _, rfl, rfl, _, he, ?_, ?_, ?_⟩
      · rw [List.length_map, octs_len]; exact lt_line (by omega)
      · intro b o e
        rw [upd_ne (fun z => by rw [z, hD] at e; cases e)]
        exact hs b o e
      · rw [upd_same, octs_succ, List.map_append]
        have e1 : (8 * (0 + (i : Int))).toNat = 8 * i := by omega
        have e2 : Builtin.bitAnd (n / 2 ^ (8 * (0 + (i : Int))).toNat) 255 = n / 2 ^ (8 * i) % 256 := by
          rw [e1, and255 (Int.ediv_nonneg hn (Int.le_of_lt (Int.pow_pos (by decide))))]
        dsimp only
        rw [e2]
        rfl
    · rintro H1 ⟨hs, he⟩
      rw [show ((c : Int)).toNat = c by omega] at he
      exact q D H1 hD hs he
/-! ### is_text, _padded, _text_octets -/
def codeOk (c : Int) : Bool := decide (32 ≤ c ∧ c ≤ 126 ∧ c ≠ 37)
def isText (s : Str) : Bool := decide ((s.length : Int) ≤ 1000) && s.cps.toList.all (fun c : Nat => codeOk (c : Int))
def codesOf (s : Str) : List Int := s.cps.toList.map fun c : Nat => (c : Int)
def padN (n : Nat) : Nat := (-(n : Int) % 4).toNat
def pad (xs : List Int) : List Int := xs ++ List.replicate (padN xs.length) 0
theorem padN_lt (n : Nat) : padN n < 4 := by unfold padN; omega
theorem pad_len (xs : List Int) : (pad xs).length = xs.length + padN xs.length := by unfold pad; rw [List.length_append, List.length_replicate]
def textOcts (s : Str) : List Int := pad (octs (s.length + 1 : Int) 4 ++ codesOf s ++ [0])
theorem codesOf_len (z : Str) : (codesOf z).length = z.length := by unfold codesOf; rw [List.length_map]; exact (size_eq z).symm
theorem textOcts_len (z : Str) : (textOcts z).length ≤ z.length + 8 := by
  unfold textOcts
  rw [pad_len, List.length_append, List.length_append, octs_len, codesOf_len]
  have := padN_lt (4 + z.length + [(0 : Int)].length)
  show 4 + z.length + 1 + padN (4 + z.length + 1) ≤ _
  have h : padN (4 + z.length + 1) < 4 := padN_lt _
  omega
def sp__is_code (K : PySem.W.Frag) : Sp := fun vs H Q _ => ∃ (c : Int), vs = [.int c] ∧ Q (.bl (codeOk c)) H
theorem sc__is_code : FnScope ["code"] ["code"] (defScope s__is_code) := ⟨rfl, rfl, rfl, by decide +kernel, rfl, by decide +kernel, by decide +kernel⟩
theorem ok__is_code (T : Txt K mg A) : FnOk P w K mg base CX0 1 A.f_is_code A.d_is_code ["code"] (sp__is_code K) := by
  refine T.F_is_code.ok sc__is_code (fun vs H Q E h => ?_) (fun cdv Ar outer s H vs Q E hr h => ?_)
  · obtain ⟨c, rfl, _⟩ := h
    rfl
  · obtain ⟨c, rfl, q⟩ := h
    refine ⟨_, (pss_one (ps_ret (pe_and (pe_chain op_le op_le (pe_glob (v := .int (32)) rfl T.g_FIRST_CODE ⟨_, rfl⟩) (pv 0) (pe_glob (v := .int (126)) rfl T.g_LAST_CODE ⟨_, rfl⟩)) (pe_one (pe_cmpR op_ne (pv 0) (pe_glob (v := .int (37)) rfl T.g_PERCENT_CODE ⟨_, rfl⟩) (nomark _)))))), ?_⟩
    unfold codeOk at q
    refine ⟨_, rfl, _, _, rfl, rfl, _, rfl, iteP (fun h1 => ?_) (fun h1 => ?_)⟩
    · refine ⟨_, _, rfl, rfl, ?_⟩
      by_cases h2 : c ≤ 126
      · refine ⟨_, rfl, if_t (decide_eq_true h2) ⟨_, rfl, rfl, ?_⟩⟩
        by_cases h3 : c = 37
        · rw [decide_eq_false fun z => z.2.2 h3] at q
          rw [decide_eq_true (by rw [h3])]; exact q
        · rw [decide_eq_true ⟨h1, h2, h3⟩] at q
          rw [decide_eq_false fun z => h3 (V.int.inj z)]; exact q
      · refine ⟨_, rfl, if_f (decide_eq_false h2) ?_⟩
        rw [decide_eq_false fun z => h2 z.2.1] at q
        exact q
    · refine ⟨_, rfl, if_f rfl ?_⟩
      rw [decide_eq_false fun z => h1 z.1] at q; exact q
def sp_is_text (K : PySem.W.Frag) : Sp := fun vs H Q _ => ∃ (s : Str), vs = [.str s] ∧ s.length < 100000 ∧ ∀ H', Same H H' → Q (.bl (isText s)) H'
theorem sc_is_text : FnScope ["value", "character"] ["value"] (defScope s_is_text) := ⟨rfl, rfl, rfl, by decide +kernel, rfl, by decide +kernel, by decide +kernel⟩
theorem ok_is_text (T : Txt K mg A) : FnOk P w K mg base CX0 2 A.fis_text A.dis_text ["value"] (sp_is_text K) := by
  refine T.Fis_text.ok sc_is_text (fun vs H Q E h => ?_) (fun cdv Ar outer s H vs Q E hr h => ?_)
  · obtain ⟨c, rfl, _⟩ := h
    rfl
  · obtain ⟨z, rfl, hl, q⟩ := h
    refine ⟨_, (pss_one (ps_ret (pe_and (pe_cmpR op_le (pe_callB call_len_str (by rfl) T.len PySem.boot_len (pa_cons (pv 0) pa_nil)) (pe_glob (v := .int (1000)) rfl T.gLONGEST_TEXT_fields ⟨_, rfl⟩) (nomark _)) (pe_one (pe_callB (cr_all rfl) (by rfl) T.all (by decide +kernel) (pa_cons (pe_lc (own := [("character", 1)]) (g := (gName 1)) (tt := tYes) rfl sc_is_text.nd (pi_str (pv 0)) (blkOk_by (own := [("character", 1)]) (N := ["value", "character"]) (sc := defScope s_is_text) (by decide +kernel)) (fun _ _ _ _ _ => (pg_name (i := 1) sc_is_text.nd rfl (Or.inl rfl))) (fun _ _ _ _ _ => pts_nil) (fun _ _ _ _ _ => by exact (pe_call (ok__is_code T) (hr.mono (by decide)) rfl T.g_is_code T.k_is_code T.b_is_code .nil pass0 (pa_cons (pe_callB call_ord (by rfl) T.ord (by decide +kernel) (pa_cons (pv 1) pa_nil)) pa_nil)))) pa_nil)))))), ?_⟩
    refine ⟨_, rfl, z, rfl, len_line (Nat.le_of_lt hl), _, _, rfl, rfl, _, rfl, iteP (fun h1 => ?_) (fun h1 => ?_)⟩
    · refine ⟨_, rfl, z, rfl, fun D hD => ?_⟩
      refine lc_dp (walk_str (z := z)) (K := K) (V0 := H) (H0 := H) (fun i => (z.cps[i]?).map fun c : Nat => PyData.bool (codeOk (c : Int))) [some (.str z), none] rfl (Same.refl _) hD (by show z.length < 100000; exact hl) (fun _ _ => trivial) (fun i x H H' y => y.1) ?_ ?_
      · rintro i x U H1 hi xx ⟨_, c, hc, rfl⟩ Qy Qn hy _
        refine ⟨rfl, _, rfl, _, rfl, rfl, _, rfl, ?_⟩
        exact hy _ _ _ _ (by rw [hc]; rfl) (Ext.refl xx.vh) (.bl _)
      · rintro U H1 _ xx _ _ dl
        rw [size_eq, show fm (fun i => (z.cps[i]?).map fun c : Nat => PyData.bool (codeOk (c : Int))) z.cps.toList.length = (z.cps.toList.map fun c : Nat => codeOk (c : Int)).map PyData.bool from by
          rw [List.map_map]; exact fm_list _ _ _ rfl _ fun i x hx => by rw [cps_at, hx]; rfl] at dl
        refine ⟨D, _, rfl, xx.vh.seq (dp_boolsL dl), ?_⟩
        have := q _ xx.hh
        unfold isText at this
        rw [decide_eq_true h1, Bool.true_and] at this
        rw [List.all_map]; exact this
    · have := q H (Same.refl H)
      unfold isText at this
      rw [decide_eq_false h1] at this
      exact this
/-- _padded(a list): a new list -/
def sp__padded (K : PySem.W.Frag) : Sp := fun vs H Q _ => ∃ (a : Addr) (xs : List Int), vs = [.ref a] ∧ H a = some (.lst (xs.map V.int)) ∧ xs.length < 90000 ∧ ∀ p H', NewL H H' p ((pad xs).map V.int) → Q (.ref p) H'
theorem sc__padded : FnScope ["octets"] ["octets"] (defScope s__padded) := ⟨rfl, rfl, rfl, by decide +kernel, rfl, by decide +kernel, by decide +kernel⟩
theorem ok__padded (T : Txt K mg A) : FnOk P w K mg base CX0 1 A.f_padded A.d_padded ["octets"] (sp__padded K) := by
  refine T.F_padded.ok sc__padded (fun vs H Q E h => ?_) (fun cdv Ar outer s H vs Q E hr h => ?_)
  · obtain ⟨a, xs, rfl, _⟩ := h
    rfl
  · obtain ⟨a, xs, rfl, ha, hl, q⟩ := h
    refine ⟨_, (pss_one (ps_ret (pe_op op_cat (pv 0) (pe_op op_rep (pe_lst (pa_cons pe_int pa_nil)) (pe_op op_mod (pe_un un_neg (pe_callB call_len_seq (by rfl) T.len PySem.boot_len (pa_cons (pv 0) pa_nil))) pe_int))))), ?_⟩
    refine ⟨_, rfl, by decide, fun p1 n1 => ?_⟩
    have ha1 : (upd H p1 (.lst [.int 0])) a = some (.lst (xs.map V.int)) := by rw [upd_ne (ne_of_none ha n1)]; exact ha
    have e1 : -((xs.map V.int).length : Int) % 4 = (padN xs.length : Int) := by rw [List.length_map]; unfold padN; omega
    have pl := padN_lt xs.length
    refine ⟨_, rfl, a, _, rfl, .inl (SqL.of ha1), _, rfl, _, _, rfl, rfl, by show (0 : Int) < 4; decide, p1, _, _, rfl, rfl, upd_same, ?_, ?_, ?_, fun p2 n2 => ?_⟩
    · omega
    · omega
    · exact len_line (by show 1 * _ ≤ _; omega)
    refine ⟨a, p2, _, _, rfl, rfl, by rw [upd_ne (ne_of_none ha1 n2)]; exact ha1, upd_same, ?_, fun p3 n3 => ?_⟩
    · rw [e1]
      exact len_line (by rw [rep_flat, List.length_map, List.length_replicate]; omega)
    refine q p3 _ ⟨?_, ?_, ?_⟩
    · exact (same_upd n1).free ((same_upd n2).free n3)
    · exact ((same_upd n1).trans (same_upd n2)).trans (same_upd n3)
    · rw [upd_same, e1]
      unfold pad
      rw [List.map_append, show ((padN xs.length : Nat) : Int).toNat = padN xs.length by omega]
      rw [rep_flat, List.map_replicate]
def sp__text_octets (K : PySem.W.Frag) : Sp := fun vs H Q _ => ∃ (s : Str), vs = [.str s] ∧ s.length < 80000 ∧ ∀ p H', NewL H H' p ((textOcts s).map V.int) → Q (.ref p) H'
theorem sc__text_octets : FnScope ["text", "codes", "character"] ["text"] (defScope s__text_octets) := ⟨rfl, rfl, rfl, by decide +kernel, rfl, by decide +kernel, by decide +kernel⟩
theorem ok__text_octets (T : Txt K mg A) : FnOk P w K mg base CX0 2 A.f_text_octets A.d_text_octets ["text"] (sp__text_octets K) := by
  refine T.F_text_octets.ok sc__text_octets (fun vs H Q E h => ?_) (fun cdv Ar outer s H vs Q E hr h => ?_)
  · obtain ⟨z, rfl, _⟩ := h
    rfl
  · obtain ⟨z, rfl, hl, q⟩ := h
    refine ⟨_, (pss_cons (ps_setLc (i := 1) (own := [("character", 2)]) (g := (gName 2)) (tt := tYes) rfl sc__text_octets.nd rfl rfl (sw_true rfl rfl rfl (by decide +kernel)) (pi_str (pv 0)) (blkOk_by (own := [("character", 2)]) (N := ["text", "codes", "character"]) (sc := defScope s__text_octets) (by decide +kernel)) (fun _ _ _ _ _ => (pg_name (i := 2) sc__text_octets.nd rfl (Or.inl rfl))) (fun _ _ _ _ _ => pts_nil) (fun _ _ _ _ _ => by exact (pe_callB call_ord (by rfl) T.ord (by decide +kernel) (pa_cons (pv 2) pa_nil))))
      (pss_one (ps_ret (pe_call (ok__padded T) (hr.mono (by decide)) rfl T.g_padded T.k_padded T.b_padded .nil pass0 (pa_cons (pe_op op_cat (pe_op op_cat (pe_call (ok_number_octets T) (hr.mono (by decide)) rfl T.gnumber_octets T.knumber_octets T.bnumber_octets .nil pass0 (pa_cons (pe_op op_add (pe_callB call_len_seq (by rfl) T.len PySem.boot_len (pa_cons (pv 1) pa_nil)) pe_int) (pa_cons pe_int pa_nil))) (pv 1)) (pe_lst (pa_cons pe_int pa_nil))) pa_nil))))), ?_⟩
    refine ⟨_, rfl, z, rfl, fun D hD => ?_⟩
    refine lc_dp (walk_str (z := z)) (K := K) (V0 := H) (H0 := H) (fun i => (z.cps[i]?).map fun c : Nat => PyData.int (c : Int)) [some (.str z), none, none] rfl (Same.refl _) hD (by show z.length < 100000; omega) (fun _ _ => trivial) (fun i x H H' y => y.1) ?_ ?_
    · rintro i x U H1 hi xx ⟨_, c, hc, rfl⟩ Qy Qn hy _
      refine ⟨rfl, _, rfl, _, rfl, rfl, ?_⟩
      exact hy _ _ _ _ (by rw [hc]; rfl) (Ext.refl xx.vh) (.int _)
    · rintro U H1 xs xx hDU dl _
      rw [size_eq, show fm (fun i => (z.cps[i]?).map fun c : Nat => PyData.int (c : Int)) z.cps.toList.length = (codesOf z).map PyData.int from by
          unfold codesOf; rw [List.map_map]; exact fm_list _ _ _ rfl _ fun i x hx => by rw [cps_at, hx]; rfl] at dl
      have hlc : (codesOf z).length = z.length := by unfold codesOf; rw [List.length_map]; exact (size_eq z).symm
      have exs := dp_intsV dl
      subst exs
      have h1D := xx.vh _ _ hDU
      have ev : ∀ (l : Int), l = z.length → (z.length : Int) + 1 = l + 1 := fun l e => by omega
      refine ⟨_, rfl, D, _, rfl, .inl (SqL.of h1D), _, _, rfl, rfl, _, 4, rfl, ?_, by decide, fun p H2 hp hs he => ?_⟩
      · omega
      have h2D := hs _ _ h1D
      rw [List.length_map, hlc] at he
      refine ⟨_, rfl, p, D, _, _, rfl, rfl, he, h2D, ?_, fun p3 n3 => ?_⟩
      · rw [List.length_map, List.length_map, octs_len, hlc]; exact len_line (by omega)
      refine ⟨by decide, fun p4 n4 => ?_⟩
      refine ⟨p3, p4, _, _, rfl, rfl, by rw [upd_ne (ne_of_none upd_same n4)]; exact upd_same, upd_same, ?_, fun p5 n5 => ?_⟩
      · rw [List.length_append, List.length_map, List.length_map, octs_len, hlc]; exact len_line (by show 4 + z.length + 1 ≤ _; omega)
      refine ⟨p5, octs (z.length + 1 : Int) 4 ++ codesOf z ++ [0], rfl, ?_, ?_, fun p6 H6 n6 => q p6 H6 ?_⟩
      · rw [upd_same, List.map_append, List.map_append]; rfl
      · rw [List.length_append, List.length_append, octs_len, hlc]; show 4 + z.length + 1 < 90000; omega
      · exact ⟨xx.hh.free (hs.free ((same_upd n3).free ((same_upd n4).free ((same_upd n5).free n6.new)))), xx.hh.trans (hs.trans ((same_upd n3).trans ((same_upd n4).trans ((same_upd n5).trans n6.same)))), n6.at_⟩
/-! ### the kinds -/
inductive NumKind : Str → Int → Int → Prop
  | uint : NumKind "uint" 0 4294967295
  | maybe : NumKind "maybe" 0 4294967295
  | int : NumKind "int" (-2147483648) 2147483647
  | object : NumKind "object" 1 4294967295
  | new : NumKind "new" 1 4294967295
inductive AV
  | num (i : Int)
  | txt (s : Str)
  | oct (xs : List Int)
  | bnd (s : Str) (n : Int)
def ArgAt (K : PySem.W.Frag) (H : Hp) (v : V) : AV → Prop
  | .num i => v = .int i
  | .txt s => v = .str s ∧ s.length < 80000
  | .oct xs => ∃ a, v = .ref a ∧ H a = some (.lst (xs.map V.int)) ∧ xs.length < 80000
  | .bnd s n => ∃ a, v = .ref a ∧ SqT K H a [.str s, .int n] ∧ s.length < 80000
theorem ArgAt.to {K : PySem.W.Frag} {H H' : Hp} {v : V} {x : AV} (h : ArgAt K H v x) (s : Same H H') : ArgAt K H' v x := by
  cases x with
  | num i => exact h
  | txt z => exact h
  | oct xs => obtain ⟨a, e, q, l⟩ := h; exact ⟨a, e, s _ _ q, l⟩
  | bnd z n => obtain ⟨a, e, q, l⟩ := h; exact ⟨a, e, s.sqt q, l⟩
def octsOk (xs : List Int) : Bool := decide (xs.length ≤ 16384) && xs.all fun x => decide (0 ≤ x ∧ x ≤ 255)
inductive ArgSpec : Str → AV → Bool → List Int → Prop
  | num {k : Str} {lo hi i : Int} (h : NumKind k lo hi) : ArgSpec k (.num i) (decide (lo ≤ i ∧ i ≤ hi)) (octs (i % 4294967296) 4)
  | txt {s : Str} : ArgSpec "text" (.txt s) (isText s) (textOcts s)
  | oct {xs : List Int} : ArgSpec "octets" (.oct xs) (octsOk xs) (pad (octs xs.length 4 ++ xs))
  | bnd {s : Str} {n : Int} : ArgSpec "bound" (.bnd s n) (isText s && decide (1 ≤ n ∧ n ≤ 4294967295)) (textOcts s ++ octs n 4)
def sp__are_octets (K : PySem.W.Frag) : Sp := fun vs H Q _ => ∃ (a : Addr) (xs : List Int), vs = [.ref a] ∧ H a = some (.lst (xs.map V.int)) ∧ xs.length < 80000 ∧ ∀ H', Same H H' → Q (.bl (octsOk xs)) H'
theorem sc__are_octets : FnScope ["value", "octet"] ["value"] (defScope s__are_octets) := ⟨rfl, rfl, rfl, by decide +kernel, rfl, by decide +kernel, by decide +kernel⟩
theorem ok__are_octets (T : Txt K mg A) : FnOk P w K mg base CX0 2 A.f_are_octets A.d_are_octets ["value"] (sp__are_octets K) := by
  refine T.F_are_octets.ok sc__are_octets (fun vs H Q E h => ?_) (fun cdv Ar outer s H vs Q E hr h => ?_)
  · obtain ⟨a, xs, rfl, _⟩ := h
    rfl
  · obtain ⟨a, xs, rfl, ha, hl, q⟩ := h
    refine ⟨_, (pss_cons (ps_if (PW.pt (pw_or (pt_not (pt_val (pe_callB call_isi (by rfl) T.isinstance (by decide +kernel) (pa_cons (pv 0) (pa_cons (pe_bltn (v := .ty "list") (by rfl) T.list (by decide +kernel) rfl) pa_nil))))) (pw_or1 (pt_cmpR op_gt (pe_callB call_len_seq (by rfl) T.len PySem.boot_len (pa_cons (pv 0) pa_nil)) (pe_glob (v := .int (16384)) rfl T.gMOST_OCTETS_fields ⟨_, rfl⟩) (nomark _)))))
      (pss_one (ps_ret pe_bl))
      pss_nil)
      (pss_one (ps_ret (pe_callB (cr_all rfl) (by rfl) T.all (by decide +kernel) (pa_cons (pe_lc (own := [("octet", 1)]) (g := (gName 1)) (tt := tYes) rfl sc__are_octets.nd (pi_list (pv 0)) (blkOk_by (own := [("octet", 1)]) (N := ["value", "octet"]) (sc := defScope s__are_octets) (by decide +kernel)) (fun _ _ _ _ _ => (pg_name (i := 1) sc__are_octets.nd rfl (Or.inl rfl))) (fun _ _ _ _ _ => pts_nil) (fun _ _ _ _ _ => by exact (pe_call (ok_is_integer T) (hr.mono (by decide)) rfl T.gis_integer T.kis_integer T.bis_integer .nil pass0 (pa_cons (pv 1) (pa_cons pe_int (pa_cons pe_int pa_nil)))))) pa_nil))))), ?_⟩
    refine ⟨_, rfl, .ref a, .ty "list", .type "list", .type "list", true, rfl, .ty _, tyL (K := K) (SqL.of ha), kit_ty (by decide +kernel), _, rfl, if_f rfl ?_⟩
    refine ⟨_, rfl, a, _, rfl, .inl (SqL.of ha), _, _, rfl, rfl, _, rfl, iteP (fun h => ?_) (fun h => ?_)⟩
    · have := q H (Same.refl H)
      unfold octsOk at this
      rw [List.length_map] at h
      rw [decide_eq_false (show ¬ xs.length ≤ 16384 by omega)] at this
      exact this
    · rw [List.length_map] at h
      refine ⟨_, rfl, a, rfl, ⟨_, SqL.of ha⟩, fun D hD => ?_⟩
      refine lc_dp (walk_list (K := K) (a := a) (xs := xs.map V.int)) (K := K) (V0 := H) (H0 := H) (fun i => (xs[i]?).map fun x => PyData.bool (decide (0 ≤ x ∧ x ≤ 255))) [some (.ref a), none] rfl (Same.refl _) hD (by rw [List.length_map]; omega) (fun H' s => s.seq (SqL.of ha)) (fun i x H H' y => y.1) ?_ ?_
      · rintro i x U H1 hi xx ⟨_, hx⟩ Qy Qn hy _
        rw [List.getElem?_map] at hx
        obtain ⟨z, hz, rfl⟩ := Option.map_eq_some_iff.mp hx
        exact ⟨rfl, _, rfl, z, 0, 255, rfl, hy _ _ _ _ (by rw [hz]; rfl) (Ext.refl xx.vh) (.bl _)⟩
      · rintro U H1 _ xx _ _ dl
        rw [List.length_map, show fm (fun i => (xs[i]?).map fun x => PyData.bool (decide (0 ≤ x ∧ x ≤ 255))) xs.length = (xs.map fun x => decide (0 ≤ x ∧ x ≤ 255)).map PyData.bool from by
          rw [List.map_map]; exact fm_list _ _ _ rfl _ fun i x hx => by rw [hx]; rfl] at dl
        refine ⟨D, _, rfl, xx.vh.seq (dp_boolsL dl), ?_⟩
        have := q _ xx.hh
        unfold octsOk at this
        rw [decide_eq_true (show xs.length ≤ 16384 by omega), Bool.true_and] at this
        rw [List.all_map]; exact this
theorem sc__is_of : FnScope ["kind", "value"] ["kind", "value"] (defScope s__is_of) := ⟨rfl, rfl, rfl, by decide +kernel, rfl, by decide +kernel, by decide +kernel⟩
/-- the kinds but bound -/
def sp_is_of0 (K : PySem.W.Frag) : Sp := fun vs H Q _ => ∃ (kind : Str) (v : V) (x : AV) (ok : Bool) (os : List Int), vs = [.str kind, v] ∧ ArgSpec kind x ok os ∧ kind ≠ "bound" ∧ ArgAt K H v x ∧ ∀ H', Same H H' → Q (.bl ok) H'
theorem ok_is_of0 (T : Txt K mg A) : FnOk P w K mg base CX0 3 A.f_is_of A.d_is_of ["kind", "value"] (sp_is_of0 K) := by
  refine T.F_is_of.ok sc__is_of (fun vs H Q E h => ?_) (fun cdv Ar outer s H vs Q E hr h => ?_)
  · obtain ⟨kind, v, x, ok, os, rfl, _⟩ := h
    rfl
  · obtain ⟨kind, v, x, ok, os, rfl, hk, nb, ha, q⟩ := h
    refine ⟨_, (pss_cons (ps_if (PW.pt (pw_or (pt_cmpR op_eq (pv 0) pe_str (nomark _)) (pw_or1 (pt_cmpR op_eq (pv 0) pe_str (nomark _)))))
      (pss_one (ps_ret (pe_call (ok_is_integer T) (hr.mono (by decide)) rfl T.gis_integer T.kis_integer T.bis_integer .nil pass0 (pa_cons (pv 1) (pa_cons pe_int (pa_cons (pe_glob (v := .int (4294967295)) rfl T.gGREATEST_NUMBER ⟨_, rfl⟩) pa_nil))))))
      pss_nil)
      (pss_cons (ps_if (pt_cmpR op_eq (pv 0) pe_str (nomark _))
      (pss_one (ps_ret (pe_call (ok_is_integer T) (hr.mono (by decide)) rfl T.gis_integer T.kis_integer T.bis_integer .nil pass0 (pa_cons (pv 1) (pa_cons (pe_glob (v := .int (-2147483648)) rfl T.gLEAST_INT ⟨_, rfl⟩) (pa_cons (pe_glob (v := .int (2147483647)) rfl T.gGREATEST_INT ⟨_, rfl⟩) pa_nil))))))
      pss_nil)
      (pss_cons (ps_if (PW.pt (pw_or (pt_cmpR op_eq (pv 0) pe_str (nomark _)) (pw_or1 (pt_cmpR op_eq (pv 0) pe_str (nomark _)))))
      (pss_one (ps_ret (pe_call (ok_is_integer T) (hr.mono (by decide)) rfl T.gis_integer T.kis_integer T.bis_integer .nil pass0 (pa_cons (pv 1) (pa_cons pe_int (pa_cons (pe_glob (v := .int (4294967295)) rfl T.gGREATEST_NUMBER ⟨_, rfl⟩) pa_nil))))))
      pss_nil)
      (pss_cons (ps_if (pt_cmpR op_eq (pv 0) pe_str (nomark _))
      (pss_one (ps_ret (pe_and (pe_callB call_isi (by rfl) T.isinstance (by decide +kernel) (pa_cons (pv 1) (pa_cons (pe_bltn (v := .ty "str") (by rfl) T.str (by decide +kernel) rfl) pa_nil))) (pe_one (pe_call (ok_is_text T) (hr.mono (by decide)) rfl T.gis_text T.kis_text T.bis_text .nil pass0 (pa_cons (pv 1) pa_nil))))))
      pss_nil)
      (pss_cons (ps_if (pt_cmpR op_eq (pv 0) pe_str (nomark _))
      (pss_one (ps_ret (pe_call (ok__are_octets T) (hr.mono (by decide)) rfl T.g_are_octets T.k_are_octets T.b_are_octets .nil pass0 (pa_cons (pv 1) pa_nil))))
      pss_nil)
      (pss_one ps_never)))))), ?_⟩
    have q0 := q H (Same.refl H)
    cases hk with
    | num h =>
      rename_i lo hi i
      obtain rfl : v = .int i := ha
      cases h with
      | uint => exact ⟨_, rfl, rfl, _, rfl, if_t (by decide +kernel) (if_t rfl ⟨_, rfl, _, _, _, rfl, q0⟩)⟩
      | maybe => exact ⟨_, rfl, rfl, _, rfl, if_f (by decide +kernel) ⟨_, rfl, rfl, _, rfl, if_t (by decide +kernel) ⟨_, rfl, _, _, _, rfl, q0⟩⟩⟩
      | int =>
        refine ⟨_, rfl, rfl, _, rfl, if_f (by decide +kernel) ⟨_, rfl, rfl, _, rfl, if_f (by decide +kernel) ?_⟩⟩
        exact ⟨_, rfl, rfl, _, rfl, if_t (by decide +kernel) ⟨_, rfl, _, _, _, rfl, q0⟩⟩
      | object =>
        refine ⟨_, rfl, rfl, _, rfl, if_f (by decide +kernel) ⟨_, rfl, rfl, _, rfl, if_f (by decide +kernel) ?_⟩⟩
        refine ⟨_, rfl, rfl, _, rfl, if_f (by decide +kernel) ⟨_, rfl, rfl, _, rfl, if_t (by decide +kernel) (if_t rfl ⟨_, rfl, _, _, _, rfl, q0⟩)⟩⟩
      | new =>
        refine ⟨_, rfl, rfl, _, rfl, if_f (by decide +kernel) ⟨_, rfl, rfl, _, rfl, if_f (by decide +kernel) ?_⟩⟩
        refine ⟨_, rfl, rfl, _, rfl, if_f (by decide +kernel) ⟨_, rfl, rfl, _, rfl, if_f (by decide +kernel) ⟨_, rfl, rfl, _, rfl, if_t (by decide +kernel) ⟨_, rfl, _, _, _, rfl, q0⟩⟩⟩⟩
    | txt =>
      rename_i s
      obtain ⟨rfl, hl⟩ := ha
      refine ⟨_, rfl, rfl, _, rfl, if_f (by decide +kernel) ⟨_, rfl, rfl, _, rfl, if_f (by decide +kernel) ?_⟩⟩
      refine ⟨_, rfl, rfl, _, rfl, if_f (by decide +kernel) ⟨_, rfl, rfl, _, rfl, if_f (by decide +kernel) ⟨_, rfl, rfl, _, rfl, if_f (by decide +kernel) ?_⟩⟩⟩
      refine ⟨_, rfl, rfl, _, rfl, if_t (by decide +kernel) ?_⟩
      exact ⟨_, rfl, .str s, .ty "str", .type "str", .type "str", true, rfl, .ty _, .base (.str _), kit_ty (by decide +kernel), _, rfl, if_t rfl ⟨_, rfl, s, rfl, by omega, q⟩⟩
    | oct =>
      rename_i xs
      obtain ⟨a, rfl, ha, hl⟩ := ha
      refine ⟨_, rfl, rfl, _, rfl, if_f (by decide +kernel) ⟨_, rfl, rfl, _, rfl, if_f (by decide +kernel) ?_⟩⟩
      refine ⟨_, rfl, rfl, _, rfl, if_f (by decide +kernel) ⟨_, rfl, rfl, _, rfl, if_f (by decide +kernel) ⟨_, rfl, rfl, _, rfl, if_f (by decide +kernel) ?_⟩⟩⟩
      refine ⟨_, rfl, rfl, _, rfl, if_f (by decide +kernel) ?_⟩
      exact ⟨_, rfl, rfl, _, rfl, if_t (by decide +kernel) ⟨_, rfl, a, xs, rfl, ha, hl, q⟩⟩
    | bnd => exact absurd rfl nb
def sp__is_bound (K : PySem.W.Frag) : Sp := fun vs H Q _ => ∃ (a : Addr) (s : Str) (n : Int), vs = [.ref a] ∧ SqT K H a [.str s, .int n] ∧ s.length < 80000 ∧ ∀ H', Same H H' → Q (.bl (isText s && decide (1 ≤ n ∧ n ≤ 4294967295))) H'
theorem sc__is_bound : FnScope ["value"] ["value"] (defScope s__is_bound) := ⟨rfl, rfl, rfl, by decide +kernel, rfl, by decide +kernel, by decide +kernel⟩
theorem ok__is_bound (T : Txt K mg A) : FnOk P w K mg base CX0 4 A.f_is_bound A.d_is_bound ["value"] (sp__is_bound K) := by
  refine T.F_is_bound.ok sc__is_bound (fun vs H Q E h => ?_) (fun cdv Ar outer s H vs Q E hr h => ?_)
  · obtain ⟨a, s, n, rfl, _⟩ := h
    rfl
  · obtain ⟨a, z, n, rfl, ha, hl, q⟩ := h
    have ok__is_of : ∀ {A' : Adr} (T : Txt K mg A'), FnOk P w K mg base CX0 3 A'.f_is_of A'.d_is_of ["kind", "value"] (sp_is_of0 K) := fun T => ok_is_of0 T
    refine ⟨_, (pss_cons (ps_if (PW.pt (pw_or (pt_not (pt_val (pe_callB call_isi (by rfl) T.isinstance (by decide +kernel) (pa_cons (pv 0) (pa_cons (pe_bltn (v := .ty "tuple") (by rfl) T.tuple (by decide +kernel) rfl) pa_nil))))) (pw_or1 (pt_cmpR op_ne (pe_callB call_len_seq (by rfl) T.len PySem.boot_len (pa_cons (pv 0) pa_nil)) pe_int (nomark _)))))
      (pss_one (ps_ret pe_bl))
      pss_nil)
      (pss_one (ps_ret (pe_and (pe_call (ok__is_of T) (hr.mono (by decide)) rfl T.g_is_of T.k_is_of T.b_is_of .nil pass0 (pa_cons pe_str (pa_cons (pe_ix (r := rIxT K) ix_tup (pv 0) pe_int (fun _ _ => rfl)) pa_nil))) (pe_one (pe_call (ok__is_of T) (hr.mono (by decide)) rfl T.g_is_of T.k_is_of T.b_is_of .nil pass0 (pa_cons pe_str (pa_cons (pe_ix (r := rIxT K) ix_tup (pv 0) pe_int (fun _ _ => rfl)) pa_nil)))))))), ?_⟩
    refine ⟨_, rfl, .ref a, .ty "tuple", .type "tuple", .type "tuple", true, rfl, .ty _, tyT ha, kit_ty (by decide +kernel), _, rfl, if_f rfl ?_⟩
    refine ⟨_, rfl, a, _, rfl, .inr ha, rfl, _, rfl, if_f rfl ?_⟩
    refine ⟨_, rfl, a, _, 0, .str z, rfl, rfl, ha, atI_nat (j := 0) rfl, "text", .str z, .txt z, isText z, _, rfl, .txt, by decide +kernel, ⟨rfl, hl⟩, fun H' s => ⟨_, rfl, if_b (fun c => ?_) (fun c => ?_)⟩⟩
    · refine ⟨_, rfl, a, _, 1, .int n, rfl, rfl, s.sqt ha, atI_nat (j := 1) rfl, "new", .int n, .num n, _, _, rfl, .num .new, by decide +kernel, rfl, fun H2 s2 => ?_⟩
      have := q H2 (s.trans s2)
      rw [c, Bool.true_and] at this
      exact this
    · have := q H' s
      rw [c, Bool.false_and] at this
      exact this
def sp__is_of (K : PySem.W.Frag) : Sp := fun vs H Q _ => ∃ (kind : Str) (v : V) (x : AV) (ok : Bool) (os : List Int), vs = [.str kind, v] ∧ ArgSpec kind x ok os ∧ ArgAt K H v x ∧ ∀ H', Same H H' → Q (.bl ok) H'
theorem ok__is_of (T : Txt K mg A) : FnOk P w K mg base CX0 5 A.f_is_of A.d_is_of ["kind", "value"] (sp__is_of K) := by
  refine T.F_is_of.ok sc__is_of (fun vs H Q E h => ?_) (fun cdv Ar outer s H vs Q E hr h => ?_)
  · obtain ⟨kind, v, x, ok, os, rfl, _⟩ := h
    rfl
  · obtain ⟨kind, v, x, ok, os, rfl, hk, ha, q⟩ := h
    refine ⟨_, (pss_cons (ps_if (PW.pt (pw_or (pt_cmpR op_eq (pv 0) pe_str (nomark _)) (pw_or1 (pt_cmpR op_eq (pv 0) pe_str (nomark _)))))
      (pss_one (ps_ret (pe_call (ok_is_integer T) (hr.mono (by decide)) rfl T.gis_integer T.kis_integer T.bis_integer .nil pass0 (pa_cons (pv 1) (pa_cons pe_int (pa_cons (pe_glob (v := .int (4294967295)) rfl T.gGREATEST_NUMBER ⟨_, rfl⟩) pa_nil))))))
      pss_nil)
      (pss_cons (ps_if (pt_cmpR op_eq (pv 0) pe_str (nomark _))
      (pss_one (ps_ret (pe_call (ok_is_integer T) (hr.mono (by decide)) rfl T.gis_integer T.kis_integer T.bis_integer .nil pass0 (pa_cons (pv 1) (pa_cons (pe_glob (v := .int (-2147483648)) rfl T.gLEAST_INT ⟨_, rfl⟩) (pa_cons (pe_glob (v := .int (2147483647)) rfl T.gGREATEST_INT ⟨_, rfl⟩) pa_nil))))))
      pss_nil)
      (pss_cons (ps_if (PW.pt (pw_or (pt_cmpR op_eq (pv 0) pe_str (nomark _)) (pw_or1 (pt_cmpR op_eq (pv 0) pe_str (nomark _)))))
      (pss_one (ps_ret (pe_call (ok_is_integer T) (hr.mono (by decide)) rfl T.gis_integer T.kis_integer T.bis_integer .nil pass0 (pa_cons (pv 1) (pa_cons pe_int (pa_cons (pe_glob (v := .int (4294967295)) rfl T.gGREATEST_NUMBER ⟨_, rfl⟩) pa_nil))))))
      pss_nil)
      (pss_cons (ps_if (pt_cmpR op_eq (pv 0) pe_str (nomark _))
      (pss_one (ps_ret (pe_and (pe_callB call_isi (by rfl) T.isinstance (by decide +kernel) (pa_cons (pv 1) (pa_cons (pe_bltn (v := .ty "str") (by rfl) T.str (by decide +kernel) rfl) pa_nil))) (pe_one (pe_call (ok_is_text T) (hr.mono (by decide)) rfl T.gis_text T.kis_text T.bis_text .nil pass0 (pa_cons (pv 1) pa_nil))))))
      pss_nil)
      (pss_cons (ps_if (pt_cmpR op_eq (pv 0) pe_str (nomark _))
      (pss_one (ps_ret (pe_call (ok__are_octets T) (hr.mono (by decide)) rfl T.g_are_octets T.k_are_octets T.b_are_octets .nil pass0 (pa_cons (pv 1) pa_nil))))
      pss_nil)
      (pss_one (ps_ret (pe_and (pe_cmpR op_eq (pv 0) pe_str (nomark _)) (pe_one (pe_call (ok__is_bound T) (hr.mono (by decide)) rfl T.g_is_bound T.k_is_bound T.b_is_bound .nil pass0 (pa_cons (pv 1) pa_nil))))))))))), ?_⟩
    have q0 := q H (Same.refl H)
    cases hk with
    | num h =>
      rename_i lo hi i
      obtain rfl : v = .int i := ha
      cases h with
      | uint => exact ⟨_, rfl, rfl, _, rfl, if_t (by decide +kernel) (if_t rfl ⟨_, rfl, _, _, _, rfl, q0⟩)⟩
      | maybe => exact ⟨_, rfl, rfl, _, rfl, if_f (by decide +kernel) ⟨_, rfl, rfl, _, rfl, if_t (by decide +kernel) ⟨_, rfl, _, _, _, rfl, q0⟩⟩⟩
      | int =>
        refine ⟨_, rfl, rfl, _, rfl, if_f (by decide +kernel) ⟨_, rfl, rfl, _, rfl, if_f (by decide +kernel) ?_⟩⟩
        exact ⟨_, rfl, rfl, _, rfl, if_t (by decide +kernel) ⟨_, rfl, _, _, _, rfl, q0⟩⟩
      | object =>
        refine ⟨_, rfl, rfl, _, rfl, if_f (by decide +kernel) ⟨_, rfl, rfl, _, rfl, if_f (by decide +kernel) ?_⟩⟩
        refine ⟨_, rfl, rfl, _, rfl, if_f (by decide +kernel) ⟨_, rfl, rfl, _, rfl, if_t (by decide +kernel) (if_t rfl ⟨_, rfl, _, _, _, rfl, q0⟩)⟩⟩
      | new =>
        refine ⟨_, rfl, rfl, _, rfl, if_f (by decide +kernel) ⟨_, rfl, rfl, _, rfl, if_f (by decide +kernel) ?_⟩⟩
        refine ⟨_, rfl, rfl, _, rfl, if_f (by decide +kernel) ⟨_, rfl, rfl, _, rfl, if_f (by decide +kernel) ⟨_, rfl, rfl, _, rfl, if_t (by decide +kernel) ⟨_, rfl, _, _, _, rfl, q0⟩⟩⟩⟩
    | txt =>
      rename_i s
      obtain ⟨rfl, hl⟩ := ha
      refine ⟨_, rfl, rfl, _, rfl, if_f (by decide +kernel) ⟨_, rfl, rfl, _, rfl, if_f (by decide +kernel) ?_⟩⟩
      refine ⟨_, rfl, rfl, _, rfl, if_f (by decide +kernel) ⟨_, rfl, rfl, _, rfl, if_f (by decide +kernel) ⟨_, rfl, rfl, _, rfl, if_f (by decide +kernel) ?_⟩⟩⟩
      refine ⟨_, rfl, rfl, _, rfl, if_t (by decide +kernel) ?_⟩
      exact ⟨_, rfl, .str s, .ty "str", .type "str", .type "str", true, rfl, .ty _, .base (.str _), kit_ty (by decide +kernel), _, rfl, if_t rfl ⟨_, rfl, s, rfl, by omega, q⟩⟩
    | oct =>
      rename_i xs
      obtain ⟨a, rfl, ha, hl⟩ := ha
      refine ⟨_, rfl, rfl, _, rfl, if_f (by decide +kernel) ⟨_, rfl, rfl, _, rfl, if_f (by decide +kernel) ?_⟩⟩
      refine ⟨_, rfl, rfl, _, rfl, if_f (by decide +kernel) ⟨_, rfl, rfl, _, rfl, if_f (by decide +kernel) ⟨_, rfl, rfl, _, rfl, if_f (by decide +kernel) ?_⟩⟩⟩
      refine ⟨_, rfl, rfl, _, rfl, if_f (by decide +kernel) ?_⟩
      exact ⟨_, rfl, rfl, _, rfl, if_t (by decide +kernel) ⟨_, rfl, a, xs, rfl, ha, hl, q⟩⟩
    | bnd =>
      rename_i z n
      obtain ⟨a, rfl, ha, hl⟩ := ha
      refine ⟨_, rfl, rfl, _, rfl, if_f (by decide +kernel) ⟨_, rfl, rfl, _, rfl, if_f (by decide +kernel) ?_⟩⟩
      refine ⟨_, rfl, rfl, _, rfl, if_f (by decide +kernel) ⟨_, rfl, rfl, _, rfl, if_f (by decide +kernel) ⟨_, rfl, rfl, _, rfl, if_f (by decide +kernel) ?_⟩⟩⟩
      refine ⟨_, rfl, rfl, _, rfl, if_f (by decide +kernel) ?_⟩
      refine ⟨_, rfl, rfl, _, rfl, if_f (by decide +kernel) ?_⟩
      exact ⟨_, rfl, rfl, _, rfl, if_t (by decide +kernel) ⟨_, rfl, a, z, n, rfl, ha, hl, q⟩⟩
/-- field_octets: a new list, or BadMessage -/
def sp_field_octets (K : PySem.W.Frag) (C : Addr) : Sp := fun vs H Q E => ∃ (kind : Str) (v : V) (x : AV) (ok : Bool) (os : List Int), vs = [.str kind, v] ∧ ArgSpec kind x ok os ∧ ArgAt K H v x ∧
  (ok = true → ∀ p H', NewL H H' p (os.map V.int) → Q (.ref p) H') ∧ (ok = false → ∀ H', Same H H' → E (.ref C) none H')
theorem sc_field_octets : FnScope ["kind", "value", "text", "number"] ["kind", "value"] (defScope s_field_octets) := ⟨rfl, rfl, rfl, by decide +kernel, rfl, by decide +kernel, by decide +kernel⟩
theorem ok_field_octets (T : Txt K mg A) : FnOk P w K mg base (L2.CX P w) 6 A.ffield_octets A.dfield_octets ["kind", "value"] (sp_field_octets K A.CBadMessage) := by
  refine T.Ffield_octets.okX sc_field_octets (fun vs H Q E h => ?_) (fun cdv Ar outer s H vs Q E hr h => ?_)
  · obtain ⟨kind, v, x, ok, os, rfl, _⟩ := h
    rfl
  · obtain ⟨kind, v, x, ok, os, rfl, hk, ha, q, e⟩ := h
    refine ⟨_, (pss_cons (ps_if (pt_not (pt_val (pe_call (ok__is_of T) (hr.mono (by decide)) rfl T.g_is_of T.k_is_of T.b_is_of .nil pass0 (pa_cons (pv 0) (pa_cons (pv 1) pa_nil)))))
      (pss_one (ps_raise rfl (takes_of rfl rfl rfl rfl) (pmk_own PySem.F.excBase_ValueError T.xBadMessage T.gBadMessage T.kBadMessage (raises_own T.bxBadMessage T.txBadMessage) rfl)))
      pss_nil)
      (pss_cons (ps_if (pt_cmpR op_eq (pv 0) pe_str (nomark _))
      (pss_one (ps_ret (pe_call (ok__text_octets T) (hr.mono (by decide)) rfl T.g_text_octets T.k_text_octets T.b_text_octets .nil pass0 (pa_cons (pv 1) pa_nil))))
      pss_nil)
      (pss_cons (ps_if (pt_cmpR op_eq (pv 0) pe_str (nomark _))
      (pss_one (ps_ret (pe_call (ok__padded T) (hr.mono (by decide)) rfl T.g_padded T.k_padded T.b_padded .nil pass0 (pa_cons (pe_op op_cat (pe_call (ok_number_octets T) (hr.mono (by decide)) rfl T.gnumber_octets T.knumber_octets T.bnumber_octets .nil pass0 (pa_cons (pe_callB call_len_seq (by rfl) T.len PySem.boot_len (pa_cons (pv 1) pa_nil)) (pa_cons pe_int pa_nil))) (pv 1)) pa_nil))))
      pss_nil)
      (pss_cons (ps_if (pt_cmpR op_eq (pv 0) pe_str (nomark _))
      (pss_cons (ps_asg (pv 1) (pg_tup rfl (pgs_cons (pg_name (i := 2) sc_field_octets.nd rfl (Or.inl rfl)) (pgs_cons (pg_name (i := 3) sc_field_octets.nd rfl (Or.inl rfl)) pgs_nil))))
      (pss_one (ps_ret (pe_op op_cat (pe_call (ok__text_octets T) (hr.mono (by decide)) rfl T.g_text_octets T.k_text_octets T.b_text_octets .nil pass0 (pa_cons (pv 2) pa_nil)) (pe_call (ok_number_octets T) (hr.mono (by decide)) rfl T.gnumber_octets T.knumber_octets T.bnumber_octets .nil pass0 (pa_cons (pv 3) (pa_cons pe_int pa_nil)))))))
      pss_nil)
      (pss_one (ps_ret (pe_call (ok_number_octets T) (hr.mono (by decide)) rfl T.gnumber_octets T.knumber_octets T.bnumber_octets .nil pass0 (pa_cons (pe_op op_mod (pv 1) (pe_op op_pow pe_int pe_int)) (pa_cons pe_int pa_nil))))))))), ?_⟩
    refine ⟨_, rfl, _, rfl, kind, v, x, ok, os, rfl, hk, ha, fun H1 s1 => ⟨_, rfl, if_b (fun c => ?_) (fun c => ?_)⟩⟩
    · refine e ?_ H1 s1
      cases ok
      · rfl
      · cases c
    have hok : ok = true := by cases ok; · cases c
                               · rfl
    replace q : ∀ p H', NewL H H' p (os.map V.int) → Q (.ref p) H' := q hok
    replace ha := ha.to s1
    clear e c
    cases hk with
    | num h =>
      rename_i lo hi i
      obtain rfl : v = .int i := ha
      have hne : kind ≠ "text" ∧ kind ≠ "octets" ∧ kind ≠ "bound" := by cases h <;> exact ⟨by decide +kernel, by decide +kernel, by decide +kernel⟩
      refine ⟨_, rfl, rfl, _, rfl, if_f (decide_eq_false fun z => hne.1 (V.str.inj z)) ?_⟩
      refine ⟨_, rfl, rfl, _, rfl, if_f (decide_eq_false fun z => hne.2.1 (V.str.inj z)) ?_⟩
      refine ⟨_, rfl, rfl, _, rfl, if_f (decide_eq_false fun z => hne.2.2 (V.str.inj z)) ?_⟩
      refine ⟨_, rfl, _, _, rfl, rfl, ⟨by decide, by decide, by decide⟩, _, _, rfl, rfl, by show (0 : Int) < 2 ^ (32 : Int).toNat; decide +kernel, ?_⟩
      have e2 : i % 2 ^ (32 : Int).toNat = i % 4294967296 := by rw [show (2 : Int) ^ (32 : Int).toNat = 4294967296 by decide +kernel]
      refine ⟨_, 4, rfl, ?_, by decide, ?_⟩
      · rw [e2]; omega
      · rw [e2]; exact fun p H' hp hs he => q p H' ⟨s1.free hp, s1.trans hs, he⟩
    | txt =>
      rename_i z
      obtain ⟨rfl, hl⟩ := ha
      refine ⟨_, rfl, rfl, _, rfl, if_t (by decide +kernel) ⟨_, rfl, z, rfl, hl, fun p H' n => q p H' ⟨s1.free n.new, s1.trans n.same, n.at_⟩⟩⟩
    | oct =>
      rename_i xs
      obtain ⟨a, rfl, ha, hl⟩ := ha
      refine ⟨_, rfl, rfl, _, rfl, if_f (by decide +kernel) ⟨_, rfl, rfl, _, rfl, if_t (by decide +kernel) ?_⟩⟩
      refine ⟨_, rfl, a, _, rfl, .inl (SqL.of ha), _, 4, rfl, by omega, by decide, fun p H2 hp hs he => ?_⟩
      rw [List.length_map] at he
      refine ⟨_, rfl, p, a, _, _, rfl, rfl, he, hs _ _ ha, ?_, fun p3 n3 => ?_⟩
      · rw [List.length_map, List.length_map, octs_len]; exact len_line (by omega)
      refine ⟨p3, octs xs.length 4 ++ xs, rfl, by rw [upd_same, List.map_append], by rw [List.length_append, octs_len]; omega, fun p4 H4 n4 => q p4 H4 ?_⟩
      exact ⟨s1.free (hs.free ((same_upd n3).free n4.new)), s1.trans (hs.trans ((same_upd n3).trans n4.same)), n4.at_⟩
    | bnd =>
      rename_i z n
      obtain ⟨a, rfl, ha, hl⟩ := ha
      refine ⟨_, rfl, rfl, _, rfl, if_f (by decide +kernel) ⟨_, rfl, rfl, _, rfl, if_f (by decide +kernel) ⟨_, rfl, rfl, _, rfl, if_t (by decide +kernel) ?_⟩⟩⟩
      refine ⟨_, rfl, a, _, rfl, ha, rfl, _, _, rfl, _, _, rfl, rfl, ?_⟩
      refine ⟨_, rfl, z, rfl, hl, fun p2 H2 n2 => ?_⟩
      refine ⟨_, rfl, n, 4, rfl, ?_, by decide, fun p3 H3 n3 s3 e3 => ?_⟩
      · have h2 := (Bool.and_eq_true_iff.mp hok).2
        have h3 := of_decide_eq_true h2
        omega
      refine ⟨p2, p3, _, _, rfl, rfl, s3 _ _ n2.at_, e3, ?_, fun p4 n4 => q p4 _ ⟨?_, ?_, ?_⟩⟩
      · rw [List.length_map, List.length_map, octs_len]; have := textOcts_len z; exact len_line (by omega)
      · exact s1.free (n2.same.free (s3.free n4))
      · exact s1.trans (n2.same.trans (s3.trans (same_upd n4)))
      · rw [upd_same, List.map_append]
/-! ### arguments: kind, value, octets -/
structure Arg where
  kind : Str
  val : AV
  os : List Int
def bodyOf (args : List Arg) : List Int := args.flatMap Arg.os
theorem body_take {args : List Arg} {i : Nat} {g : Arg} (h : args[i]? = some g) : bodyOf (args.take (i + 1)) = bodyOf (args.take i) ++ g.os := fl_take' Arg.os args i g h
theorem body_le (args : List Arg) (i : Nat) : (bodyOf (args.take i)).length ≤ (bodyOf args).length := fl_le' Arg.os args i
theorem body_len_le {args : List Arg} {c : Nat} (h : ∀ g ∈ args, g.os.length ≤ c) : (bodyOf args).length ≤ c * args.length := by
  induction args with
  | nil => exact Nat.zero_le _
  | cons g r ih =>
    show (g.os ++ bodyOf r).length ≤ c * (r.length + 1)
    rw [List.length_append, Nat.mul_succ]
    have := ih fun x hx => h x (List.mem_cons_of_mem _ hx)
    have := h g List.mem_cons_self
    omega
/-! ### encode_message -/
/-- the list of the arguments, all of them of their kinds -/
structure ArgsAt (K : PySem.W.Frag) (H : Hp) (a : Addr) (args : List Arg) : Prop where
  ex : ∃ xs : List V, SqL K H a xs ∧ xs.length = args.length ∧ ∀ (i : Nat) (x : V), xs[i]? = some x → ∃ (g : Arg) (t : Addr) (v : V), args[i]? = some g ∧ x = .ref t ∧ SqT K H t [.str g.kind, v] ∧ ArgAt K H v g.val
  ok : ∀ g ∈ args, ArgSpec g.kind g.val true g.os
theorem ArgsAt.to {K : PySem.W.Frag} {H H' : Hp} {a : Addr} {args : List Arg} (h : ArgsAt K H a args) (s : Same H H') : ArgsAt K H' a args := by
  obtain ⟨xs, h1, h2, h3⟩ := h.ex
  refine ⟨⟨xs, s.seq h1, h2, fun i x hx => ?_⟩, h.ok⟩
  obtain ⟨g, t, v, e1, e2, e3, e4⟩ := h3 i x hx
  exact ⟨g, t, v, e1, e2, s.sqt e3, e4.to s⟩
def msgOcts (n o : Int) (body : List Int) : List Int := octs n 4 ++ octs o 2 ++ octs ((8 + body.length : Nat) : Int) 2 ++ body
def encBad (n o : Int) (args : List Arg) : Prop := ¬ (1 ≤ n ∧ n ≤ 4294967295) ∨ ¬ (0 ≤ o ∧ o ≤ 65535) ∨ 20 < args.length
def encLong (args : List Arg) : Prop := 20480 < 8 + (bodyOf args).length
def sp_encode_message (K : PySem.W.Frag) (B L : Addr) : Sp := fun vs H Q E => ∃ (n o : Int) (a : Addr) (args : List Arg), vs = [.int n, .int o, .ref a] ∧ ArgsAt K H a args ∧ (bodyOf args).length < 60000 ∧ args.length < 60000 ∧
  (encBad n o args → ∀ H', Same H H' → E (.ref B) none H') ∧ (¬ encBad n o args → encLong args → ∀ H', Same H H' → E (.ref L) none H') ∧
  (¬ encBad n o args → ¬ encLong args → ∀ p H', NewL H H' p ((msgOcts n o (bodyOf args)).map V.int) → Q (.ref p) H')
theorem sc_encode_message : FnScope ["number", "opcode", "arguments", "body", "kind", "value", "size"] ["number", "opcode", "arguments"] (defScope s_encode_message) := ⟨rfl, rfl, rfl, by decide +kernel, rfl, by decide +kernel, by decide +kernel⟩
theorem ok_encode_message (T : Txt K mg A) : FnOk P w K mg base (L2.CX P w) 7 A.fencode_message A.dencode_message ["number", "opcode", "arguments"] (sp_encode_message K A.CBadMessage A.CMessageTooLong) := by
  refine T.Fencode_message.okX sc_encode_message (fun vs H Q E h => ?_) (fun cdv Ar outer s H vs Q E hr h => ?_)
  · obtain ⟨n, o, a, args, rfl, _⟩ := h
    rfl
  · obtain ⟨n, o, a, args, rfl, hA, hb, hl, qb, ql, q⟩ := h
    obtain ⟨xs, hS, hxl, hx⟩ := hA.ex
    refine ⟨_, (pss_cons (ps_if (pt_not (pt_val (pe_call (ok_is_integer T) (hr.mono (by decide)) rfl T.gis_integer T.kis_integer T.bis_integer .nil pass0 (pa_cons (pv 0) (pa_cons pe_int (pa_cons (pe_glob (v := .int (4294967295)) rfl T.gGREATEST_NUMBER ⟨_, rfl⟩) pa_nil))))))
      (pss_one (ps_raise rfl (takes_of rfl rfl rfl rfl) (pmk_own PySem.F.excBase_ValueError T.xBadMessage T.gBadMessage T.kBadMessage (raises_own T.bxBadMessage T.txBadMessage) rfl)))
      pss_nil)
      (pss_cons (ps_if (pt_not (pt_val (pe_call (ok_is_integer T) (hr.mono (by decide)) rfl T.gis_integer T.kis_integer T.bis_integer .nil pass0 (pa_cons (pv 1) (pa_cons pe_int (pa_cons (pe_glob (v := .int (65535)) rfl T.gGREATEST_OPCODE ⟨_, rfl⟩) pa_nil))))))
      (pss_one (ps_raise rfl (takes_of rfl rfl rfl rfl) (pmk_own PySem.F.excBase_ValueError T.xBadMessage T.gBadMessage T.kBadMessage (raises_own T.bxBadMessage T.txBadMessage) rfl)))
      pss_nil)
      (pss_cons (ps_if (pt_cmpR op_gt (pe_callB call_len_seq (by rfl) T.len PySem.boot_len (pa_cons (pv 2) pa_nil)) (pe_glob (v := .int (20)) rfl T.gMOST_ARGUMENTS ⟨_, rfl⟩) (nomark _))
      (pss_one (ps_raise rfl (takes_of rfl rfl rfl rfl) (pmk_own PySem.F.excBase_ValueError T.xBadMessage T.gBadMessage T.kBadMessage (raises_own T.bxBadMessage T.txBadMessage) rfl)))
      pss_nil)
      (pss_cons (ps_set (i := 3) sc_encode_message.nd rfl (Or.inl rfl) (pe_lst pa_nil))
      (pss_cons (ps_for (passes_of rfl) rfl (pi_list (pv 2)) (pg_tup rfl (pgs_cons (pg_name (i := 4) sc_encode_message.nd rfl (Or.inl rfl)) (pgs_cons (pg_name (i := 5) sc_encode_message.nd rfl (Or.inl rfl)) pgs_nil)))
      (pss_one (ps_expr (pe_bm PySem.F.plainAttrs_list PySem.F.slot_list_extend PySem.F.type_list_extend mt_extend (pv 3) (pa_cons (pe_call (ok_field_octets T) (hr.mono (by decide)) rfl T.gfield_octets T.kfield_octets T.bfield_octets .nil (passes_call (takes_of rfl rfl rfl rfl) (fun _ _ _ _ h => h)) (pa_cons (pv 4) (pa_cons (pv 5) pa_nil))) pa_nil)))))
      (pss_cons (ps_set (i := 6) sc_encode_message.nd rfl (Or.inl rfl) (pe_op op_add (pe_glob (v := .int (8)) rfl T.gHEADER_SIZE ⟨_, rfl⟩) (pe_callB call_len_seq (by rfl) T.len PySem.boot_len (pa_cons (pv 3) pa_nil))))
      (pss_cons (ps_if (pt_cmpR op_gt (pv 6) (pe_glob (v := .int (20480)) rfl T.gGREATEST_SIZE ⟨_, rfl⟩) (nomark _))
      (pss_one (ps_raise rfl (takes_of rfl rfl rfl rfl) (pmk_own PySem.F.excBase_ValueError T.xMessageTooLong T.gMessageTooLong T.kMessageTooLong (raises_own T.bxMessageTooLong T.txMessageTooLong) rfl)))
      pss_nil)
      (pss_one (ps_ret (pe_op op_cat (pe_op op_cat (pe_op op_cat (pe_call (ok_number_octets T) (hr.mono (by decide)) rfl T.gnumber_octets T.knumber_octets T.bnumber_octets .nil pass0 (pa_cons (pv 0) (pa_cons pe_int pa_nil))) (pe_call (ok_number_octets T) (hr.mono (by decide)) rfl T.gnumber_octets T.knumber_octets T.bnumber_octets .nil pass0 (pa_cons (pv 1) (pa_cons pe_int pa_nil)))) (pe_call (ok_number_octets T) (hr.mono (by decide)) rfl T.gnumber_octets T.knumber_octets T.bnumber_octets .nil pass0 (pa_cons (pv 6) (pa_cons pe_int pa_nil)))) (pv 3))))))))))), ?_⟩
    refine ⟨_, rfl, n, 1, 4294967295, rfl, _, rfl, iteN (fun c => qb (Or.inl c) H (Same.refl H)) (fun c1 => ?_)⟩
    refine ⟨_, rfl, o, 0, 65535, rfl, _, rfl, iteN (fun c => qb (Or.inr (Or.inl c)) H (Same.refl H)) (fun c2 => ?_)⟩
    refine ⟨_, rfl, a, _, rfl, .inl hS, _, _, rfl, rfl, _, rfl, iteP (fun c => qb (Or.inr (Or.inr (by omega))) H (Same.refl H)) (fun c3 => ?_)⟩
    have nb : ¬ encBad n o args := fun z => by
      rcases z with z | z | z
      · exact z c1
      · exact z c2
      · omega
    refine ⟨by decide, fun p hp => ?_⟩
    refine ⟨_, rfl, a, rfl, ⟨_, (same_upd hp).seq hS⟩, for_list (K := K) (a := a) (xs := xs) (fun i σ H' => ∃ v4 v5 : Option V, σ = [some (.int n), some (.int o), some (.ref a), some (.ref p), v4, v5, none] ∧ Same H H' ∧ H' p = some (.lst ((bodyOf (args.take i)).map V.int)))
      ⟨_, _, rfl, same_upd hp, upd_same⟩ (fun i σ H' _ ⟨_, _, _, s, _⟩ => s.seq hS) ?_ ?_⟩
    · rintro i x σ H1 hi ⟨v4, v5, rfl, s1, e1⟩
      obtain ⟨g, t, v, hg, rfl, ht, hv⟩ := hx i x hi
      refine ⟨t, _, rfl, s1.sqt ht, rfl, _, _, rfl, _, _, rfl, rfl, ?_⟩
      refine ⟨_, rfl, .inl ⟨rfl, _, SqL.of e1⟩, ?_⟩
      refine ⟨_, rfl, _, rfl, g.kind, v, g.val, true, g.os, rfl, hA.ok g (List.mem_of_getElem? hg), hv.to s1, fun _ p2 H2 n2 => ?_, fun z => nomatch z⟩
      have e2 := n2.same _ _ e1
      have hbt := body_take hg
      have hbl := body_le args (i + 1)
      rw [hbt, List.length_append] at hbl
      refine ⟨p, p2, _, _, rfl, rfl, e2, n2.at_, ?_, ?_⟩
      · rw [List.length_map, List.length_map]; exact len_line (by omega)
      refine ⟨_, _, rfl, fun b u e => ?_, ?_⟩
      · rw [upd_ne (ne_of_none e hp)]; exact n2.same _ _ (s1 b u e)
      · rw [upd_same, hbt, List.map_append]
    · rintro σ H1 ⟨v4, v5, rfl, s1, e1⟩
      rw [hxl, List.take_length] at e1
      refine ⟨_, rfl, p, _, rfl, .inl (SqL.of e1), _, _, rfl, rfl, ?_⟩
      rw [List.length_map]
      have ec : (8 : Int) + ((bodyOf args).length : Int) = ((8 + (bodyOf args).length : Nat) : Int) := by omega
      refine ⟨_, rfl, _, _, rfl, rfl, _, rfl, iteP (fun c => ?_) (fun c => ?_)⟩
      · exact ql nb (by show 20480 < _; have : (20480 : Int) < 8 + ((bodyOf args).length : Int) := c; omega) H1 s1
      have nl : ¬ encLong args := fun z => c (by show (20480 : Int) < 8 + ((bodyOf args).length : Int); have : 20480 < 8 + (bodyOf args).length := z; omega)
      refine ⟨_, rfl, n, 4, rfl, by omega, by decide, fun p2 H2 h2 s2 e2 => ?_⟩
      refine ⟨_, rfl, o, 2, rfl, by omega, by decide, fun p3 H3 h3 s3 e3 => ?_⟩
      refine ⟨p2, p3, _, _, rfl, rfl, s3 _ _ e2, e3, ?_, fun p4 h4 => ?_⟩
      · rw [List.length_map, List.length_map, octs_len, octs_len]; exact len_line (by decide)
      refine ⟨_, rfl, ((8 + (bodyOf args).length : Nat) : Int), 2, ?_, by omega, by decide, fun p5 H5 h5 s5 e5 => ?_⟩
      · exact congrArg (fun z => [V.int z, V.int 2]) ec
      refine ⟨p4, p5, _, _, rfl, rfl, s5 _ _ upd_same, e5, ?_, fun p6 h6 => ?_⟩
      · rw [List.length_append, List.length_map, List.length_map, List.length_map, octs_len, octs_len, octs_len]; exact len_line (by decide)
      have e1' := same_upd (o := .lst ((octs n 4).map V.int ++ (octs o 2).map V.int ++ (octs ((8 + (bodyOf args).length : Nat) : Int) 2).map V.int)) h6 _ _ (s5 _ _ (same_upd (o := .lst ((octs n 4).map V.int ++ (octs o 2).map V.int)) h4 _ _ (s3 _ _ (s2 _ _ e1))))
      refine ⟨_, rfl, p6, p, _, _, rfl, rfl, upd_same, e1', ?_, fun p7 h7 => q nb nl p7 _ ⟨?_, ?_, ?_⟩⟩
      · rw [List.length_append, List.length_append, List.length_map, List.length_map, List.length_map, List.length_map, octs_len, octs_len, octs_len]; exact len_line (by omega)
      · exact s1.free (s2.free (s3.free ((same_upd h4).free (s5.free ((same_upd h6).free h7)))))
      · exact s1.trans (s2.trans (s3.trans ((same_upd h4).trans (s5.trans ((same_upd h6).trans (same_upd h7))))))
      · rw [upd_same]
        unfold msgOcts
        rw [List.map_append, List.map_append, List.map_append]
/-! ### a rule: a walk of zip of a tuple and a list -/
section
open PySem.Spec PyProof.Rows
def ItzM (K : PySem.W.Frag) (a b : Addr) : It :=
  ⟨fun i H => ∃ (xs ys : List V) (x y : V), SqT K H a xs ∧ SqL K H b ys ∧ xs[i]? = some x ∧ ys[i]? = some y,
    fun i H v H' => ∃ T x y, v = .ref T ∧ H T = none ∧ H' = upd H T (.tup [x, y]) ∧ (∀ xs, SqT K H a xs → xs[i]? = some x) ∧ ∀ ys, SqL K H b ys → ys[i]? = some y,
    fun i H => ∃ xs ys : List V, SqT K H a xs ∧ SqL K H b ys ∧ i ≤ xs.length ∧ i ≤ ys.length ∧ (i = xs.length ∨ i = ys.length)⟩
theorem sepM {z TI TO i1 i2 a b : Addr} (D : ZipApart z TI TO i1 i2 a b) : ZipSep2 z TI TO i1 i2 [i1, a] [i2, b] where
  TIz := D.TIz
  TOz := D.TOz
  TITO := D.TITO
  TIi1 := D.TIi1
  mem1 := by simp
  zf1 := by simp only [List.mem_cons, List.not_mem_nil, or_false]; exact fun h => h.elim D.i1z.symm D.l1z.symm
  Tf1 := by simp only [List.mem_cons, List.not_mem_nil, or_false]; exact fun h => h.elim D.TOi1 D.l1TO.symm
  TIi2 := D.TIi2
  mem2 := by simp
  zf2 := by simp only [List.mem_cons, List.not_mem_nil, or_false]; exact fun h => h.elim D.i2z.symm D.l2z.symm
  Tf2 := by simp only [List.mem_cons, List.not_mem_nil, or_false]; exact fun h => h.elim D.TOi2 D.l2TO.symm
  sep1_2 := by simp only [List.mem_cons, List.not_mem_nil, or_false]; exact fun h => h.elim D.i12 D.l2i1.symm
  sep2_1 := by simp only [List.mem_cons, List.not_mem_nil, or_false]; exact fun h => h.elim D.i12.symm D.l1i2.symm
theorem turn_zipM {P : Program} {w : World} {K : PySem.W.Frag} {elts : List Expr} {kk : Nat} {tpos : Pos} {a b z TI TO i1 i2 : Addr} (D : ZipApart z TI TO i1 i2 a b) :
    Turn P w K (.Tuple elts kk tpos) (ItzM K a b) [z, TI, TO, i1, i2] z (fun i h => IsZip h z TI TO .none ∧ IsTupOf2 h TI (.ref i1) (.ref i2) ∧ (∃ x y, IsTupOf2 h TO x y) ∧ h.IsTupleIter i1 a i ∧ h.IsListIter i2 b i) where
  mem := by simp
  obj := fun i h st c hc => by
    obtain ⟨hz, hTI, ⟨x, y, hTO⟩, ⟨o1, e1, _, d1⟩, ⟨o2, e2, _, d2⟩⟩ := st
    simp only [List.mem_cons, List.not_mem_nil, or_false] at hc
    rcases hc with rfl | rfl | rfl | rfl | rfl
    · exact ⟨_, hz, fun v q => nomatch q⟩
    · exact ⟨_, hTI, fun v q => nomatch q⟩
    · exact ⟨_, hTO, fun v q => nomatch q⟩
    · exact ⟨o1, e1, fun v q => by rw [d1] at q; cases q⟩
    · exact ⟨o2, e2, fun v q => by rw [d2] at q; cases q⟩
  keep := fun i h h' st k => by
    obtain ⟨hz, hTI, ⟨x, y, hTO⟩, h1, h2⟩ := st
    exact ⟨k z (by simp) _ hz, k TI (by simp) _ hTI, ⟨x, y, k TO (by simp) _ hTO⟩, h1.at fun o q => k i1 (by simp) o q, h2.at fun o q => k i2 (by simp) o q⟩
  item := by
    intro X hP hw hK hc i pins s σ H E I hf st hg
    subst hP hw hK
    obtain ⟨hz, hTI, ⟨x0, y0, hTO⟩, h1, h2⟩ := st
    obtain ⟨xs, ys, x, y, hqx, hqy, hx, hy⟩ := hg
    obtain ⟨its, rv, p, _⟩ := I.tuple hqx
    obtain ⟨its2, rv2, p2, _⟩ := I.list hqy
    obtain ⟨u, hu, ru⟩ := rv.get hx
    obtain ⟨u2, hu2, ru2⟩ := rv2.get hy
    have hzl : z < s.heap.objs.size := Heap.lt_size hz
    have hh : X.A.handled = none := I.ok.hd hc
    have g1 : its.toArray[i]? = some u := by simpa using hu
    have g2 : its2.toArray[i]? = some u2 := by simpa using hu2
    refine wpAny_pyNext_zipD2_item (sepM D) (Draws.tuple (A := X.A.in1) hh i1 a D.l1i1 its.toArray) (Draws.list (A := X.A.in1) hh i2 b D.l2i2 its2.toArray) hz hTI hTO ⟨h1, p⟩ ⟨h2, p2.isList⟩
      (Array.getElem?_eq_some_iff.mp g1).1 (Array.getElem?_eq_some_iff.mp g2).1 fun x1 x2 h' tk e1 e2 z' TO' h1' h2' hT hsz hk => ?_
    obtain rfl : u = x1 := Option.some.inj (g1.symm.trans e1)
    obtain rfl : u2 = x2 := Option.some.inj (g2.symm.trans e2)
    refine ⟨_, rfl, wpAny_letOwnedTupleGo_zip (s := { s with heap := h', toks := tk }) z' fun h'' z'' sb => ?_⟩
    have hT2 : h''.get? s.heap.objs.size = some { cls := .type "tuple", data := .seq #[u, u2] } := (sb.2 _ (Nat.ne_of_gt hzl)).trans hT
    have new : ObjOk X.prog X.w (upd H s.heap.objs.size (.tup [x, y])) h'' s.heap.objs.size (.tup [x, y]) :=
      ⟨by show 2 ≤ sizeLine; decide, [u, u2], .cons ru (.cons ru2 .nil), ⟨_, hT2, rfl, _, rfl⟩⟩
    have I1 : Inv X pins σ (upd H s.heap.objs.size (.tup [x, y])) { s with heap := h'', toks := tk } :=
      I.turnedNew (t' := tk) (ch := [z, TI, TO, i1, i2]) (fun c o hb q => by
        simp only [List.mem_cons, List.not_mem_nil, or_false, not_or] at hb
        exact (sb.2 c hb.1).trans (hk c o hb.1 hb.2.2.1 hb.2.2.2.1 hb.2.2.2.2 q)) hf (Nat.le_refl _) new
    refine ⟨.ref s.heap.objs.size, _, I1, rfl, ⟨_, x, y, rfl, I.hok.fresh (Nat.le_refl _), rfl, fun l hl => by rw [I.tuple_inj hl hqx]; exact hx, fun l hl => by rw [I.list_inj hl hqy]; exact hy⟩, ⟨z'', ?_, ⟨u, u2, ?_⟩, ?_, ?_⟩, fun c hcm => ?_⟩
    · exact (sb.2 _ D.TIz).trans (hk _ _ D.TIz D.TITO D.TIi1 D.TIi2 hTI)
    · exact (sb.2 _ D.TOz).trans TO'
    · exact h1'.1.at fun o q => (sb.2 _ D.i1z).trans q
    · exact h2'.1.at fun o q => (sb.2 _ D.i2z).trans q
    · have hlt : c < s.heap.objs.size := by
        simp only [List.mem_cons, List.not_mem_nil, or_false] at hcm
        obtain ⟨_, e1, _⟩ := h1
        obtain ⟨_, e2, _⟩ := h2
        rcases hcm with rfl | rfl | rfl | rfl | rfl
        · exact hzl
        · exact Heap.lt_size hTI
        · exact Heap.lt_size hTO
        · exact Heap.lt_size e1
        · exact Heap.lt_size e2
      rw [upd_ne (Nat.ne_of_lt hlt)]
      exact (hf c hcm).1
  done := by
    intro X hP hw hK hc i pins s σ H E I hf st hg
    subst hP hw hK
    obtain ⟨hz, hTI, ⟨x0, y0, hTO⟩, h1, h2⟩ := st
    obtain ⟨xs, ys, hqx, hqy, l1, l2, hend⟩ := hg
    obtain ⟨its, rv, p, _⟩ := I.tuple hqx
    obtain ⟨its2, rv2, p2, _⟩ := I.list hqy
    have n1 : its.toArray.size = xs.length := by rw [List.size_toArray]; exact rv.length.symm
    have n2 : its2.toArray.size = ys.length := by rw [List.size_toArray]; exact rv2.length.symm
    have hh : X.A.handled = none := I.ok.hd hc
    exact wpAny_pyNext_zipD2_end (sepM D) (Draws.tuple (A := X.A.in1) hh i1 a D.l1i1 its.toArray) (Draws.list (A := X.A.in1) hh i2 b D.l2i2 its2.toArray) hz hTI hTO ⟨h1, p⟩ ⟨h2, p2.isList⟩ (by omega) (by omega) (by omega) fun h' tk hk =>
      ⟨rfl, I.turnedL (t' := tk) (ch := [z, TI, TO, i1, i2]) (fun c o hb q => by
        simp only [List.mem_cons, List.not_mem_nil, or_false, not_or] at hb
        exact hk c o hb.1 hb.2.2.1 hb.2.2.2.1 hb.2.2.2.2 q) hf⟩
  self := fun A i s Q E st h => wpAny_pyIter_zip st.1 h
def iZipM (K : PySem.W.Frag) (ta : TA) : TI := fun σ H R => ta σ H fun vs H1 => ∃ a b xs ys, vs = [.ref a, .ref b] ∧ SqT K H1 a xs ∧ SqL K H1 b ys ∧ R (ItzM K a b) H1
theorem pi_zipM {X : Cx} {e e2 : Expr} {ta : TA} {p pos tpos : Pos} {elts : List Expr} {kk : Nat} (hg : Gl X "zip") (hm : X.mg "zip" = none) (ha : PA X [e, e2] ta)
    (hs : starEach [e, e2] X.env = (false, eval e X.env) :: starEach [e2] X.env := by rfl) (hpl : (backTo pos (starEach [e2] X.env)).any (·.1) = false := by rfl) :
    PI X (.Tuple elts kk tpos) (.Call (.Name "zip" p) [e, e2] [] pos) (iZipM X.K ta) := by
  refine ⟨fun pins s σ H R I h => ?_⟩
  refine Call_ (ld_blt I hg hm PyProof.Rows.boot_zip (PyProof.Rows.callWith_type1 (thn (ha.run pos pins s σ H _ I h) fun us s1 ⟨vs, H1, I1, r1, q1⟩ => ?_) hs hpl))
  obtain ⟨a, b, xs, ys, ex, hqx, hqy, q⟩ := q1
  subst ex
  obtain ⟨u, u2, rfl, r, r2⟩ : ∃ u u2, us = [u, u2] ∧ RelV (.ref a) u ∧ RelV (.ref b) u2 := by
    cases r1 with
    | cons r rr => cases rr with
      | cons r' rr => cases rr; exact ⟨_, _, rfl, r, r'⟩
  obtain rfl : u = Value.ref a := r
  obtain rfl : u2 = Value.ref b := r2
  obtain ⟨its, rv, p1, _⟩ := I1.tuple hqx
  obtain ⟨its2, rv2, p2, _⟩ := I1.list hqy
  obtain ⟨o1, ho1, _⟩ := id p1
  refine zip_begins2 (begins_tuple a its.toArray) (begins_list b its2.toArray) p1 p2.isList fun h' hz hTI hTO h1 h2 hsz hk => wpAny_pyIter_zip hz ?_
  have I2 : Inv X pins σ H1 { s1 with heap := h' } := I1.kept (t' := s1.toks) hk
  refine ⟨s1.heap.objs.size + 4, [s1.heap.objs.size + 4, s1.heap.objs.size + 2, s1.heap.objs.size + 3, s1.heap.objs.size, s1.heap.objs.size + 1], _, _, H1, rfl, I2, turn_zipM (PySem.W.ktu_apart s1.heap.objs.size a b (Heap.lt_size ho1) p2.lt), ⟨hz, hTI, ⟨_, _, hTO⟩, ⟨_, h1, rfl, rfl⟩, ⟨_, h2, rfl, rfl⟩⟩, fun c hcm => ?_, q⟩
  have hle : s1.heap.objs.size ≤ c := by
    simp only [List.mem_cons, List.not_mem_nil, or_false] at hcm
    rcases hcm with rfl | rfl | rfl | rfl | rfl
    · exact Nat.le_add_right _ _
    · exact Nat.le_add_right _ _
    · exact Nat.le_add_right _ _
    · exact Nat.le_refl _
    · exact Nat.le_add_right _ _
  exact I1.fpOk hle (I1.hok.fresh hle)
end
/-! ### a rule: list(zip(a, b)) of any two iterators: the pairs are kept -/
section
open PySem.Spec PyProof.Rows
section
variable {prog : Program} {w : World} {A : Around} {E : Value → Shared → Prop} {s : Shared} {z TI TO i1 i2 T : Addr} {fp1 fp2 : List Addr} {n1 n2 i : Nat} {P1 P2 : Nat → Value → Prop} {St1 St2 : Nat → Heap → Prop} {f : Bool} {oT : Obj}
theorem heldD_item {Q : Value → Shared → Prop} (S : ZipSep2 z TI TO i1 i2 fp1 fp2) (D1 : Draws prog w A i1 fp1 n1 P1 St1) (D2 : Draws prog w A i2 fp2 n2 P2 St2)
    (hz : IsZipHeld s.heap z TI TO T f) (hT : s.heap.get? T = some oT) (hTI : IsTupOf2 s.heap TI (.ref i1) (.ref i2)) (st1 : St1 i s.heap) (st2 : St2 i s.heap) (hlt1 : i < n1) (hlt2 : i < n2)
    (hQ : ∀ x1 x2 h' tk, P1 i x1 → P2 i x2 → IsZipHeld h' z TI TO T true → St1 (i + 1) h' → St2 (i + 1) h' → IsTupOf2 h' s.heap.objs.size x1 x2 →
      (∀ c o, c ≠ z → c ≠ i1 → c ≠ i2 → s.heap.get? c = some o → h'.get? c = some o) → Q (.ref s.heap.objs.size) { s with heap := h', toks := tk }) :
    wpAny (model prog w) A (Builtin.«zip.__next__» ⟨[.ref z], []⟩) (fun fin s' => ∃ v, fin = .done (.ret v) ∧ Q v s') E s := by
  obtain ⟨hp, g, d, tk0, os⟩ := s
  show wpAny _ _ (field (.ref z) 2 >>= _) _ _ _
  refine wpAny_bind (wpAny_field hz rfl (x := .bool false) rfl ?_)
  show wpAny _ _ (field (.ref z) 3 >>= _) _ _ _
  refine wpAny_bind (wpAny_field hz rfl (x := .ref TI) rfl ?_)
  refine wpAny_bind (wpAny_seqItems hTI rfl ?_)
  show wpAny _ _ (Builtin.SmallTypes.ownedTupleIsFree (.ref z) >>= _) _ _ _
  refine wpAny_bind (wpAny_tupleHeld_zip hz hT fun g0 hz0 hs0 => ?_)
  replace hs0 : Heap.SameBut z hp g0 := hs0
  simp only [Bool.false_eq_true, if_false]
  refine wpAny_bind ?_
  rw [← Array.forIn_toList]
  simp only [List.forIn_cons, List.forIn_nil]
  refine wpAny_bind (wpAny_bind (wpAny_holding ?_))
  show wpAny _ _ (Builtin.SmallTypes.nextOf (.ref i1) >>= _) _ _ ⟨g0, g, d, tk0, os⟩
  refine wpAny_bind (D1.item i _ _ _ hlt1 (D1.over st1 hs0 S.zf1) fun x1 p1 tk1 hx1 sn1 hp1 => wpAny_pure ?_)
  replace hp1 : Heap.SameBut i1 g0 p1 := hp1
  refine wpAny_pure ?_
  refine wpAny_bind (wpAny_bind (wpAny_holding ?_))
  show wpAny _ _ (Builtin.SmallTypes.nextOf (.ref i2) >>= _) _ _ ⟨p1, g, d, tk1, os⟩
  refine wpAny_bind (D2.item i _ _ _ hlt2 (D2.over (D2.over st2 hs0 S.zf2) hp1 S.sep1_2) fun x2 p2 tk2 hx2 sn2 hp2 => wpAny_pure ?_)
  replace hp2 : Heap.SameBut i2 p1 p2 := hp2
  refine wpAny_pure (wpAny_pure ?_)
  show wpAny _ _ (newTuple [x1, x2] >>= _) _ _ _
  refine wpAny_bind (wpAny_newTuple ?_)
  have hsz : p2.objs.size = hp.objs.size := by rw [hp2.1, hp1.1, hs0.1]
  have hz2 : IsZipHeld p2 z TI TO T true := hp2.extBut _ _ S.zi2 (hp1.extBut _ _ S.zi1 hz0)
  have hk : ∀ c o, c ≠ z → c ≠ i1 → c ≠ i2 → hp.get? c = some o → p2.get? c = some o := fun c o c0 c1 c2 e => hp2.extBut _ _ c2 (hp1.extBut _ _ c1 (hs0.extBut _ _ c0 e))
  have hj1 : St1 (i + 1) p2 := D1.over sn1 hp2 S.sep2_1
  have up : ∀ c o, p2.get? c = some o → (p2.push { cls := .type "tuple", data := .seq #[x1, x2] }).get? c = some o := fun c o e => Heap.get?_push_of_some _ e
  have hN : IsTupOf2 (p2.push { cls := .type "tuple", data := .seq #[x1, x2] }) p2.objs.size x1 x2 := Heap.get?_push_size _ rfl
  refine wpAny_pure ⟨_, rfl, ?_⟩
  show Q (.ref p2.objs.size) _
  rw [hsz] at hN ⊢
  exact hQ x1 x2 _ tk2 hx1 hx2 (up _ _ hz2) (D1.frame _ _ _ hj1 fun b _ o e => up b o e) (D2.frame _ _ _ sn2 fun b _ o e => up b o e) hN fun c o c0 c1 c2 e => up c o (hk c o c0 c1 c2 e)
theorem heldD_end {Q : Fin → Shared → Prop} (S : ZipSep2 z TI TO i1 i2 fp1 fp2) (D1 : Draws prog w A i1 fp1 n1 P1 St1) (D2 : Draws prog w A i2 fp2 n2 P2 St2)
    (hz : IsZipHeld s.heap z TI TO T f) (hT : s.heap.get? T = some oT) (hTI : IsTupOf2 s.heap TI (.ref i1) (.ref i2)) (st1 : St1 i s.heap) (st2 : St2 i s.heap) (hi : i = n1)
    (hE : ∀ h' e, (∀ c o, c ≠ z → c ≠ i1 → s.heap.get? c = some o → h'.get? c = some o) → (∃ o, h'.get? e = some o ∧ o.cls = .type "StopIteration") → E (.ref e) { s with heap := h' }) :
    wpAny (model prog w) A (Builtin.«zip.__next__» ⟨[.ref z], []⟩) Q E s := by
  subst hi
  show wpAny _ _ (field (.ref z) 2 >>= _) _ _ _
  refine wpAny_bind (wpAny_field hz rfl (x := .bool false) rfl ?_)
  show wpAny _ _ (field (.ref z) 3 >>= _) _ _ _
  refine wpAny_bind (wpAny_field hz rfl (x := .ref TI) rfl ?_)
  refine wpAny_bind (wpAny_seqItems hTI rfl ?_)
  show wpAny _ _ (Builtin.SmallTypes.ownedTupleIsFree (.ref z) >>= _) _ _ _
  refine wpAny_bind (wpAny_tupleHeld_zip hz hT fun g0 hz0 hs0 => ?_)
  simp only [Bool.false_eq_true, if_false]
  refine wpAny_bind ?_
  rw [← Array.forIn_toList]
  simp only [List.forIn_cons, List.forIn_nil]
  refine wpAny_bind (wpAny_bind (wpAny_holding ?_))
  show wpAny _ _ (Builtin.SmallTypes.nextOf (.ref i1) >>= _) _ _ _
  refine wpAny_bind (D1.done _ _ _ (D1.over st1 hs0 S.zf1) fun h2 e hs2 he => ?_)
  exact hE h2 e (fun c o c0 c1 x => hs2 _ _ c1 (hs0.extBut _ _ c0 x)) he
theorem heldD_next {Q : Option Value → Shared → Prop} (S : ZipSep2 z TI TO i1 i2 fp1 fp2) (D1 : Draws prog w A.in1 i1 fp1 n1 P1 St1) (D2 : Draws prog w A.in1 i2 fp2 n2 P2 St2)
    (hz : IsZipHeld s.heap z TI TO T f) (hT : s.heap.get? T = some oT) (hTI : IsTupOf2 s.heap TI (.ref i1) (.ref i2)) (st1 : St1 i s.heap) (st2 : St2 i s.heap) (hlt1 : i < n1) (hlt2 : i < n2)
    (hQ : ∀ x1 x2 h' tk, P1 i x1 → P2 i x2 → IsZipHeld h' z TI TO T true → St1 (i + 1) h' → St2 (i + 1) h' → IsTupOf2 h' s.heap.objs.size x1 x2 →
      (∀ c o, c ≠ z → c ≠ i1 → c ≠ i2 → s.heap.get? c = some o → h'.get? c = some o) → Q (some (.ref s.heap.objs.size)) { s with heap := h', toks := tk }) :
    wpAny (model prog w) A (pyNext (.ref z)) Q E s := by
  have hTy : s.TypeIs (.ref z) "zip" := ⟨_, hz, rfl⟩
  unfold pyNext
  exact wpAny_bind (wpAny_attempt (wpAny_callSpecial?_slot (name := Str.ofString "__next__") hTy F.slot_zip_next
    (wpAny_call_entry F.slot_zip_next hTy F.entry_zip_next
      (heldD_item S D1 D2 hz hT hTI st1 st2 hlt1 hlt2 fun x1 x2 h' tk a1 a2 a3 a4 a5 a6 a7 => wpAny_pure (hQ x1 x2 h' tk a1 a2 a3 a4 a5 a6 a7)) (F.args_zip_next_1 _))))
theorem heldD_stop {Q : Option Value → Shared → Prop} (S : ZipSep2 z TI TO i1 i2 fp1 fp2) (D1 : Draws prog w A.in1 i1 fp1 n1 P1 St1) (D2 : Draws prog w A.in1 i2 fp2 n2 P2 St2)
    (hz : IsZipHeld s.heap z TI TO T f) (hT : s.heap.get? T = some oT) (hTI : IsTupOf2 s.heap TI (.ref i1) (.ref i2)) (st1 : St1 i s.heap) (st2 : St2 i s.heap) (hi : i = n1)
    (hQ : ∀ h', (∀ c o, c ≠ z → c ≠ i1 → s.heap.get? c = some o → h'.get? c = some o) → Q none { s with heap := h' }) :
    wpAny (model prog w) A (pyNext (.ref z)) Q E s := by
  have hTy : s.TypeIs (.ref z) "zip" := ⟨_, hz, rfl⟩
  unfold pyNext
  refine wpAny_bind (wpAny_attempt (wpAny_callSpecial?_slot (name := Str.ofString "__next__") hTy F.slot_zip_next
    (wpAny_call_entry F.slot_zip_next hTy F.entry_zip_next (heldD_end S D1 D2 hz hT hTI st1 st2 hi fun h' e hk he => ?_) (F.args_zip_next_1 _))))
  obtain ⟨o, ho, hc⟩ := he
  refine wpAny_bind (wpAny_isInstance (T := "StopIteration") (b := true) ⟨o, ho, hc⟩ isSubtype_stop ?_)
  exact wpAny_pure (hQ _ hk)
end
section
variable {X : Cx} {pins : List (Addr × Obj)} {σ : L2.St} {z TI TO i1 i2 a b S : Addr} {xs ys : List V} {H0 : Hp}
structure LpE (X : Cx) (pins : List (Addr × Obj)) (σ : L2.St) (S : Addr) (xs ys : List V) (H0 : Hp) (i : Nat) (Ts : List Addr) (H : Hp) (s : Shared) (c : Nat) : Prop where
  inv : Inv X pins σ H s
  same : Same H0 H
  len : Ts.length = i
  tup : ∀ (j : Nat) (t : Addr), Ts[j]? = some t → ∃ x y, xs[j]? = some x ∧ ys[j]? = some y ∧ H t = some (.tup [x, y]) ∧ H0 t = none
  lst : s.heap.get? S = some { cls := .type "list", dict := none, data := .seq (Ts.map Value.ref).toArray c, slots := #[] }
  fpS : FpOk X pins H S
structure LpI (X : Cx) (pins : List (Addr × Obj)) (σ : L2.St) (z TI TO i1 i2 a b S : Addr) (xs ys : List V) (H0 : Hp) (i : Nat) (Ts : List Addr) (H : Hp) (s : Shared) (c : Nat) : Prop where
  e : LpE X pins σ S xs ys H0 i Ts H s c
  fp : ∀ c ∈ [z, TI, TO, i1, i2], FpOk X pins H c
  lt : ∀ c ∈ [z, TI, TO, i1, i2], c < s.heap.objs.size
  tie : IsTupOf2 s.heap TI (.ref i1) (.ref i2)
  it1 : s.heap.IsTupleIter i1 a i
  it2 : s.heap.IsListIter i2 b i
  zs : (IsZip s.heap z TI TO .none ∧ ∃ u v, IsTupOf2 s.heap TO u v) ∨ ∃ T f x y, IsZipHeld s.heap z TI TO T f ∧ H T = some (.tup [x, y])
theorem fpOk_upd {H : Hp} {T c : Addr} {o : HO} (h : FpOk X pins H c) (n : c ≠ T) : FpOk X pins (upd H T o) c := ⟨by rw [upd_ne n]; exact h.1, h.2⟩
theorem lp_push {H : Hp} {Ts : List Addr} {s : Shared} {c i tk : Nat} {x y : V} {u u2 : Value} {h' : Heap} {T : Addr} {f : Bool} (D : ZipApart z TI TO i1 i2 a b) (hS : S ∉ [z, TI, TO, i1, i2]) (L : LpI X pins σ z TI TO i1 i2 a b S xs ys H0 i Ts H s c)
    (hx : xs[i]? = some x) (hy : ys[i]? = some y) (ru : RelV x u) (ru2 : RelV y u2)
    (z' : IsZipHeld h' z TI TO T f) (hTT : ∃ x1 y1, upd H s.heap.objs.size (.tup [x, y]) T = some (.tup [x1, y1])) (j1 : h'.IsTupleIter i1 a (i + 1)) (j2 : h'.IsListIter i2 b (i + 1)) (hT : IsTupOf2 h' s.heap.objs.size u u2)
    (hk : ∀ c o, c ≠ z → c ≠ TO → c ≠ i1 → c ≠ i2 → s.heap.get? c = some o → h'.get? c = some o) :
    ∃ c', LpI X pins σ z TI TO i1 i2 a b S xs ys H0 (i + 1) (Ts ++ [s.heap.objs.size]) (upd H s.heap.objs.size (.tup [x, y])) { s with heap := h'.update S (Obj.mapSeq (·.push (.ref s.heap.objs.size))), toks := tk } c' := by
  simp only [List.mem_cons, List.not_mem_nil, or_false, not_or] at hS
  obtain ⟨sz, sTI, sTO, s1, s2⟩ := hS
  have fr : H s.heap.objs.size = none := L.e.inv.hok.fresh (Nat.le_refl _)
  have hS' := hk S _ sz sTO s1 s2 L.e.lst
  have e2 := Heap.get?_update_self (Obj.mapSeq (·.push (Value.ref s.heap.objs.size))) hS' rfl
  have oth : ∀ c o, c ≠ S → h'.get? c = some o → (h'.update S (Obj.mapSeq (·.push (Value.ref s.heap.objs.size)))).get? c = some o := fun c o n e => (Heap.get?_update_other _ _ (Ne.symm n)).trans e
  have nS : S ≠ s.heap.objs.size := Nat.ne_of_lt (Heap.lt_size L.e.lst)
  have nt : ∀ c u, H c = some u → c ≠ s.heap.objs.size := fun c u e n => by rw [n, fr] at e; cases e
  have hsz : s.heap.objs.size < (h'.update S (Obj.mapSeq (·.push (Value.ref s.heap.objs.size)))).objs.size := Heap.lt_size (oth _ _ nS.symm hT)
  have new : ObjOk X.prog X.w (upd H s.heap.objs.size (.tup [x, y])) (h'.update S (Obj.mapSeq (·.push (Value.ref s.heap.objs.size)))) s.heap.objs.size (.tup [x, y]) :=
    ⟨by show 2 ≤ sizeLine; decide, [u, u2], .cons ru (.cons ru2 .nil), ⟨_, oth _ _ nS.symm hT, rfl, _, rfl⟩⟩
  have I1 : Inv X pins σ (upd H s.heap.objs.size (.tup [x, y])) { s with heap := h'.update S (Obj.mapSeq (·.push (Value.ref s.heap.objs.size))), toks := tk } :=
    L.e.inv.turnedNew (t' := tk) (ch := [S, z, TI, TO, i1, i2]) (fun c o hb q => by
      simp only [List.mem_cons, List.not_mem_nil, or_false, not_or] at hb
      exact oth c o hb.1 (hk c o hb.2.1 hb.2.2.2.1 hb.2.2.2.2.1 hb.2.2.2.2.2 q)) (fun c hc => by
      rcases List.mem_cons.mp hc with rfl | hc
      · exact L.e.fpS
      · exact L.fp c hc) (Nat.le_refl _) new
  have ea : (List.map Value.ref (Ts ++ [s.heap.objs.size])).toArray = (List.map Value.ref Ts).toArray.push (.ref s.heap.objs.size) := by simp
  obtain ⟨c', e3⟩ : ∃ c', (h'.update S (Obj.mapSeq (·.push (Value.ref s.heap.objs.size)))).get? S = some { cls := .type "list", dict := none, data := .seq (List.map Value.ref (Ts ++ [s.heap.objs.size])).toArray c', slots := #[] } := ⟨_, by rw [ea]; exact e2⟩
  refine ⟨c', ⟨I1, fun c u e => ?_, ?_, fun j t hj => ?_, e3, fpOk_upd L.e.fpS nS⟩, fun c hc => fpOk_upd (L.fp c hc) (Nat.ne_of_lt (L.lt c hc)), fun c hc => Nat.lt_trans (L.lt c hc) hsz, oth _ _ (Ne.symm sTI) (hk _ _ D.TIz D.TITO D.TIi1 D.TIi2 L.tie), j1.at fun o e => oth _ o (Ne.symm s1) e, j2.at fun o e => oth _ o (Ne.symm s2) e, .inr ?_⟩
  · rw [upd_ne (nt _ _ (L.e.same c u e))]; exact L.e.same c u e
  · rw [List.length_append, L.e.len]; rfl
  · by_cases hlt : j < Ts.length
    · rw [List.getElem?_append_left hlt] at hj
      obtain ⟨x1, y1, e1, e2, e3, e4⟩ := L.e.tup j t hj
      exact ⟨x1, y1, e1, e2, by rw [upd_ne (nt _ _ e3)]; exact e3, e4⟩
    · rw [List.getElem?_append_right (by omega)] at hj
      have hj0 : j - Ts.length = 0 := by
        cases hd : j - Ts.length with
        | zero => rfl
        | succ m => rw [hd] at hj; cases hj
      rw [hj0] at hj
      injection hj with hj
      have hji : j = i := by have := L.e.len; omega
      rw [← hj, hji]
      refine ⟨x, y, hx, hy, upd_same, ?_⟩
      cases q : H0 s.heap.objs.size with
      | none => rfl
      | some o => have := L.e.same _ _ q; rw [fr] at this; cases this
  · obtain ⟨x1, y1, e⟩ := hTT
    exact ⟨T, f, x1, y1, oth _ _ (Ne.symm sz) z', e⟩
theorem lp_end {H : Hp} {Ts : List Addr} {s : Shared} {c i tk : Nat} {h' : Heap} (hS : S ∉ [z, TI, TO, i1, i2]) (L : LpI X pins σ z TI TO i1 i2 a b S xs ys H0 i Ts H s c)
    (hk : ∀ c o, c ≠ z → c ≠ TO → c ≠ i1 → c ≠ i2 → s.heap.get? c = some o → h'.get? c = some o) : LpE X pins σ S xs ys H0 i Ts H { s with heap := h', toks := tk } c := by
  simp only [List.mem_cons, List.not_mem_nil, or_false, not_or] at hS
  obtain ⟨sz, sTI, sTO, s1, s2⟩ := hS
  refine ⟨L.e.inv.turnedL (t' := tk) (ch := [z, TI, TO, i1, i2]) (fun c o hb q => ?_) L.fp, L.e.same, L.e.len, L.e.tup, hk S _ sz sTO s1 s2 L.e.lst, L.e.fpS⟩
  simp only [List.mem_cons, List.not_mem_nil, or_false, not_or] at hb
  exact hk c o hb.1 hb.2.2.1 hb.2.2.2.1 hb.2.2.2.2 q
theorem lp_loop {A : Around} {R : Result → Shared → Prop} (hh : A.handled = none) (D : ZipApart z TI TO i1 i2 a b) (hS : S ∉ [z, TI, TO, i1, i2]) (qx : SqT X.K H0 a xs) (qy : SqL X.K H0 b ys) (hl : xs.length = ys.length) (hz : xs.length ≤ 1000000) (res : Value) :
    ∀ (k i : Nat) (s : Shared) (H : Hp) (Ts : List Addr) (c : Nat), xs.length - i = k → i ≤ xs.length → LpI X pins σ z TI TO i1 i2 a b S xs ys H0 i Ts H s c →
    (∀ s' H' Ts' c', LpE X pins σ S xs ys H0 xs.length Ts' H' s' c' → R (.ok (.ret res)) s') →
    codeAny (model X.prog X.w) A (.builtin "list.extend.loop" ⟨[.ref S, .ref z, res], []⟩) R s := by
  intro k
  induction k with
  | zero =>
    intro i s H Ts c hk hi L hR
    have hin : i = xs.length := by omega
    subst hin
    obtain ⟨its, rv, p, _⟩ := L.e.inv.tuple (L.e.same.sqt qx)
    obtain ⟨its2, rv2, p2, _⟩ := L.e.inv.list (L.e.same.seq qy)
    have n1 : its.toArray.size = xs.length := by rw [List.size_toArray]; exact rv.length.symm
    have n2 : its2.toArray.size = ys.length := by rw [List.size_toArray]; exact rv2.length.symm
    refine codeAny_builtin F.entry_extend_loop ?_
    rw [Around.under_plainId F.plain_extend_loop _]
    show wpAny _ A.in1 (pyNext (.ref z) >>= _) _ _ s
    rcases L.zs with ⟨hz0, u, v, hTO⟩ | ⟨T, f, x0, y0, hz0, hT0⟩
    · exact wpAny_bind (wpAny_pyNext_zipD2_end (sepM D) (Draws.tuple (A := A.in1.in1) hh i1 a D.l1i1 its.toArray) (Draws.list (A := A.in1.in1) hh i2 b D.l2i2 its2.toArray) hz0 L.tie hTO ⟨L.it1, p⟩ ⟨L.it2, p2.isList⟩ (by omega) (by omega) (by omega) fun h' tk hk =>
        wpAny_pure (hR _ _ _ _ (lp_end hS L hk)))
    · obtain ⟨_, _, ⟨oT, hoT, _⟩, _⟩ := L.e.inv.tuple (SqT.of hT0)
      exact wpAny_bind (heldD_stop (sepM D) (Draws.tuple (A := A.in1.in1) hh i1 a D.l1i1 its.toArray) (Draws.list (A := A.in1.in1) hh i2 b D.l2i2 its2.toArray) hz0 hoT L.tie ⟨L.it1, p⟩ ⟨L.it2, p2.isList⟩ n1.symm fun h' hk =>
        wpAny_pure (hR _ _ _ _ (lp_end (tk := s.toks) hS L fun c o h0 _ h1 _ e => hk c o h0 h1 e)))
  | succ k ih =>
    intro i s H Ts c hk hi L hR
    have hlt : i < xs.length := by omega
    have hlt2 : i < ys.length := by omega
    obtain ⟨its, rv, p, _⟩ := L.e.inv.tuple (L.e.same.sqt qx)
    obtain ⟨its2, rv2, p2, _⟩ := L.e.inv.list (L.e.same.seq qy)
    have hx : xs[i]? = some xs[i] := List.getElem?_eq_getElem hlt
    have hy : ys[i]? = some ys[i] := List.getElem?_eq_getElem hlt2
    obtain ⟨u, hu, ru⟩ := rv.get hx
    obtain ⟨u2, hu2, ru2⟩ := rv2.get hy
    have g1 : its.toArray[i]? = some u := by simpa using hu
    have g2 : its2.toArray[i]? = some u2 := by simpa using hu2
    have hS2 := hS
    simp only [List.mem_cons, List.not_mem_nil, or_false, not_or] at hS2
    have hts := L.e.len
    refine codeAny_builtin F.entry_extend_loop ?_
    rw [Around.under_plainId F.plain_extend_loop _]
    show wpAny _ A.in1 (pyNext (.ref z) >>= _) _ _ s
    rcases L.zs with ⟨hz0, u0, v0, hTO⟩ | ⟨T, f, x0, y0, hz0, hT0⟩
    · refine wpAny_bind (wpAny_pyNext_zipD2_item (sepM D) (Draws.tuple (A := A.in1.in1) hh i1 a D.l1i1 its.toArray) (Draws.list (A := A.in1.in1) hh i2 b D.l2i2 its2.toArray) hz0 L.tie hTO ⟨L.it1, p⟩ ⟨L.it2, p2.isList⟩
        (Array.getElem?_eq_some_iff.mp g1).1 (Array.getElem?_eq_some_iff.mp g2).1 fun x1 x2 h' tk e1 e2 z' TO' h1' h2' hT hsz hk => ?_)
      obtain rfl : u = x1 := Option.some.inj (g1.symm.trans e1)
      obtain rfl : u2 = x2 := Option.some.inj (g2.symm.trans e2)
      obtain ⟨c', L2⟩ := lp_push (tk := tk) (f := false) D hS L hx hy ru ru2 z' ⟨_, _, upd_same⟩ h1'.1 h2'.1 hT hk
      have hS' := hk S _ hS2.1 hS2.2.2.1 hS2.2.2.2.1 hS2.2.2.2.2 L.e.lst
      show wpAny _ A.in1 (updateSeq S (·.push (.ref s.heap.objs.size)) >>= _) _ _ _
      refine wpAny_bind ?_
      refine wpAny_updateSeq (s := { s with heap := h', toks := tk }) hS' rfl (wpAny_pure ⟨plainId_quiet F.plain_extend_loop _, ih (i + 1) _ _ _ _ (by omega) hlt L2 hR⟩) ?_ ?_
      · simp only [List.size_toArray, List.length_map]; rw [sizeLine_eq]; omega
      · simp only [Array.size_push, List.size_toArray, List.length_map]; rw [sizeLine_eq]; omega
    · obtain ⟨_, _, ⟨oT, hoT, _⟩, _⟩ := L.e.inv.tuple (SqT.of hT0)
      refine wpAny_bind (heldD_next (sepM D) (Draws.tuple (A := A.in1.in1) hh i1 a D.l1i1 its.toArray) (Draws.list (A := A.in1.in1) hh i2 b D.l2i2 its2.toArray) hz0 hoT L.tie ⟨L.it1, p⟩ ⟨L.it2, p2.isList⟩
        (Array.getElem?_eq_some_iff.mp g1).1 (Array.getElem?_eq_some_iff.mp g2).1 fun x1 x2 h' tk e1 e2 z' h1' h2' hT hk => ?_)
      obtain rfl : u = x1 := Option.some.inj (g1.symm.trans e1)
      obtain rfl : u2 = x2 := Option.some.inj (g2.symm.trans e2)
      have nT : T ≠ s.heap.objs.size := fun n => by rw [n, L.e.inv.hok.fresh (Nat.le_refl _)] at hT0; cases hT0
      obtain ⟨c', L2⟩ := lp_push (tk := tk) (f := true) D hS L hx hy ru ru2 z' ⟨x0, y0, by rw [upd_ne nT]; exact hT0⟩ h1'.1 h2'.1 hT (fun c o h0 _ h1 h2 e => hk c o h0 h1 h2 e)
      have hS' := hk S _ hS2.1 hS2.2.2.2.1 hS2.2.2.2.2 L.e.lst
      show wpAny _ A.in1 (updateSeq S (·.push (.ref s.heap.objs.size)) >>= _) _ _ _
      refine wpAny_bind ?_
      refine wpAny_updateSeq (s := { s with heap := h', toks := tk }) hS' rfl (wpAny_pure ⟨plainId_quiet F.plain_extend_loop _, ih (i + 1) _ _ _ _ (by omega) hlt L2 hR⟩) ?_ ?_
      · simp only [List.size_toArray, List.length_map]; rw [sizeLine_eq]; omega
      · simp only [Array.size_push, List.size_toArray, List.length_map]; rw [sizeLine_eq]; omega
theorem lp_touch {H : Hp} {Ts : List Addr} {s : Shared} {c c' i tk : Nat} {h' : Heap} (hS : S ∉ [z, TI, TO, i1, i2]) (L : LpI X pins σ z TI TO i1 i2 a b S xs ys H0 i Ts H s c)
    (hsz : s.heap.objs.size ≤ h'.objs.size) (hk : ∀ c o, c ≠ S → s.heap.get? c = some o → h'.get? c = some o) (e : h'.get? S = some { cls := .type "list", dict := none, data := .seq (Ts.map Value.ref).toArray c', slots := #[] }) :
    LpI X pins σ z TI TO i1 i2 a b S xs ys H0 i Ts H { s with heap := h', toks := tk } c' := by
  simp only [List.mem_cons, List.not_mem_nil, or_false, not_or] at hS
  obtain ⟨sz, sTI, sTO, s1, s2⟩ := hS
  refine ⟨⟨L.e.inv.turnedL (t' := tk) (ch := [S]) (fun c o hb q => hk c o (fun n => hb (by simp [n])) q) (fun c hc => by rw [List.mem_singleton.mp hc]; exact L.e.fpS), L.e.same, L.e.len, L.e.tup, e, L.e.fpS⟩, L.fp, fun c hc => Nat.lt_of_lt_of_le (L.lt c hc) hsz,
    hk _ _ (Ne.symm sTI) L.tie, L.it1.at fun o q => hk _ o (Ne.symm s1) q, L.it2.at fun o q => hk _ o (Ne.symm s2) q, ?_⟩
  rcases L.zs with ⟨hz, u, v, hTO⟩ | ⟨T, f, x, y, hz, hT⟩
  · exact .inl ⟨hk _ _ (Ne.symm sz) hz, u, v, hk _ _ (Ne.symm sTO) hTO⟩
  · exact .inr ⟨T, f, x, y, hk _ _ (Ne.symm sz) hz, hT⟩
theorem lp_take {H : Hp} {Ts : List Addr} {s : Shared} {c i : Nat} (L : LpE X pins σ S xs ys H0 i Ts H s c) (hi : i ≤ 1000000) : Inv X pins σ (upd H S (.lst (Ts.map V.ref))) s := by
  have vr : ∀ l : List Addr, Vals (l.map V.ref) (l.map Value.ref) := fun l => by
    induction l with
    | nil => exact .nil
    | cons t r ih => exact .cons rfl ih
  refine L.inv.take (t' := s.toks) (h' := s.heap) (fun _ _ _ e => e) L.fpS ⟨?_, Ts.map Value.ref, c, vr Ts, L.lst⟩
  rw [List.length_map, L.len, sizeLine_eq]; omega
theorem zip_no_len : typeLookup (.type "zip") "__len__" = pure none := am_miss_of_fast (by decide +kernel)
theorem zip_no_hint : typeLookup (.type "zip") "__length_hint__" = pure none := am_miss_of_fast (by decide +kernel)
theorem lp_extend {A : Around} {R : Result → Shared → Prop} (hh : A.handled = none) (D : ZipApart z TI TO i1 i2 a b) (hS : S ∉ [z, TI, TO, i1, i2]) (qx : SqT X.K H0 a xs) (qy : SqL X.K H0 b ys) (hl : xs.length = ys.length) (hz : xs.length ≤ 1000000) (res : Value)
    {s : Shared} {H : Hp} {c : Nat} (L : LpI X pins σ z TI TO i1 i2 a b S xs ys H0 0 [] H s c) (hz0 : IsZip s.heap z TI TO .none)
    (hR : ∀ s' H' Ts' c', LpE X pins σ S xs ys H0 xs.length Ts' H' s' c' → R (.ok (.ret res)) s') :
    wpAny (model X.prog X.w) A.in1 (Builtin.List.listExtendWith (.ref S) (.ref z) res)
      (fun fin s' => match fin with | .done f => R (.ok f) s' | .again c' => c'.quiet = true ∧ codeAny (model X.prog X.w) A c' R s') (fun e s' => R (.error e) s') s := by
  have hTy : s.TypeIs (.ref z) "zip" := ⟨_, hz0, rfl⟩
  have hS2 := hS
  simp only [List.mem_cons, List.not_mem_nil, or_false, not_or] at hS2
  have hL := L.e.lst
  unfold Builtin.List.listExtendWith
  refine wpAny_bind (wpAny_typeOf hTy ?_)
  have h1 : Builtin.List.listSameRef (.ref S) (.ref z) = false := by simp [Builtin.List.listSameRef, hS2.1]
  have h2 : (Value.type "zip" == Value.type "list") = false := by decide
  have h3 : (Value.type "zip" == Value.type "tuple") = false := by decide
  simp only [h1, h2, h3, Bool.or_false, Bool.false_eq_true, if_false]
  refine wpAny_bind (wpAny_pyIter_zip hz0 ?_)
  refine wpAny_bind (wpAny_holding ?_)
  unfold Builtin.List.listLengthHint
  refine wpAny_bind (wpAny_specialOf hTy zip_no_len ?_)
  show wpAny _ A.in1 (specialOf (Value.ref z) (Str.ofString "__length_hint__") >>= _) _ _ _
  refine wpAny_bind (wpAny_specialOf hTy zip_no_hint ?_)
  refine wpAny_pure ?_
  show wpAny _ A.in1 (rule "list.extend.makes-room" >>= fun _ => Builtin.List.listTouch (.ref S) >>= fun _ =>
    again (.builtin "list.extend.loop" ⟨[.ref S, .ref z, res], []⟩)) _ _ _
  refine wpAny_bind (wpAny_rule ?_)
  refine wpAny_bind ?_
  show wpAny _ A.in1 (updateSeq S (·.push .none) >>= fun _ => updateSeq S (·.pop)) _ _ _
  refine wpAny_bind (wpAny_updateSeq hL rfl ?_)
  have e2 := Heap.get?_update_self (Obj.mapSeq (·.push Value.none)) hL rfl
  refine wpAny_updateSeq (hz := by seq_fits) e2 rfl ?_
  have e3 := Heap.get?_update_self (Obj.mapSeq (·.pop)) e2 rfl
  have oth : ∀ b o, b ≠ S → s.heap.get? b = some o → ((s.heap.update S (Obj.mapSeq (·.push Value.none))).update S (Obj.mapSeq (·.pop))).get? b = some o :=
    fun b o hb e => (Heap.get?_update_other _ _ (Ne.symm hb)).trans ((Heap.get?_update_other _ _ (Ne.symm hb)).trans e)
  have L3 := lp_touch (s := s) (tk := s.toks) (h' := (s.heap.update S (Obj.mapSeq (·.push Value.none))).update S (Obj.mapSeq (·.pop))) hS L (by rw [(Heap.SameBut.update ..).1, (Heap.SameBut.update ..).1]; exact Nat.le_refl _) oth e3
  exact wpAny_pure ⟨plainId_quiet F.plain_extend_loop _, lp_loop hh D hS qx qy hl hz res xs.length 0 _ H [] _ (by omega) (Nat.zero_le _) L3 hR⟩
theorem lp_init {A : Around} {R : Result → Shared → Prop} (hh : A.handled = none) (D : ZipApart z TI TO i1 i2 a b) {s : Shared} (qx : SqT X.K H0 a xs) (qy : SqL X.K H0 b ys) (hl : xs.length = ys.length) (hz : xs.length ≤ 1000000)
    (I : Inv X pins σ H0 s) (fp : ∀ c ∈ [z, TI, TO, i1, i2], FpOk X pins H0 c) (lt : ∀ c ∈ [z, TI, TO, i1, i2], c < s.heap.objs.size) (tie : IsTupOf2 s.heap TI (.ref i1) (.ref i2)) (it1 : s.heap.IsTupleIter i1 a 0) (it2 : s.heap.IsListIter i2 b 0)
    (hz0 : IsZip s.heap z TI TO .none) {u v : Value} (hTO : IsTupOf2 s.heap TO u v)
    (hR : ∀ s' H' Ts' c', LpE X pins σ s.heap.objs.size xs ys H0 xs.length Ts' H' s' c' → R (.ok (.ret .none)) s') :
    wpAny (model X.prog X.w) A.in1 (Builtin.«list.__init__» ⟨[.ref s.heap.objs.size, .ref z], []⟩)
      (fun fin s' => match fin with | .done f => R (.ok f) s' | .again c' => c'.quiet = true ∧ codeAny (model X.prog X.w) A c' R s') (fun e s' => R (.error e) s') { s with heap := s.heap.push { cls := .type "list", data := .seq #[] } } := by
  have e0 : (s.heap.push { cls := .type "list", data := .seq #[] }).get? s.heap.objs.size = some { cls := .type "list", data := .seq #[] } := Heap.get?_push_size _ rfl
  show wpAny _ _ (do let old ← Builtin.List.listItems (.ref s.heap.objs.size); Builtin.List.listUpdate (.ref s.heap.objs.size) (fun _ => #[]); letGo old.toList.reverse; Builtin.List.listExtendWith (.ref s.heap.objs.size) (.ref z) .none) _ _ _
  refine wpAny_bind ?_
  unfold Builtin.List.listItems
  refine wpAny_bind (wpAny_seqItems e0 rfl (wpAny_pure ?_))
  show wpAny _ _ (updateSeq s.heap.objs.size (fun _ => #[]) >>= fun _ => letGo (#[] : Array Value).toList.reverse >>= fun _ => Builtin.List.listExtendWith (.ref s.heap.objs.size) (.ref z) .none) _ _ _
  refine wpAny_bind (wpAny_updateSeq e0 rfl ?_)
  have e2 := Heap.get?_update_self (Obj.mapSeq (fun _ => (#[] : Array Value))) e0 rfl
  have oth : ∀ c o, s.heap.get? c = some o → ((s.heap.push { cls := .type "list", data := .seq #[] }).update s.heap.objs.size (Obj.mapSeq (fun _ => (#[] : Array Value)))).get? c = some o := fun c o e =>
    (Heap.get?_update_other _ _ (Nat.ne_of_gt (Heap.lt_size e))).trans (Heap.get?_push_of_some _ e)
  refine wpAny_bind (wpAny_letGo ?_)
  have hS : s.heap.objs.size ∉ [z, TI, TO, i1, i2] := fun h => Nat.lt_irrefl _ (lt _ h)
  have sz : s.heap.objs.size ≤ ((s.heap.push { cls := .type "list", data := .seq #[] }).update s.heap.objs.size (Obj.mapSeq (fun _ => (#[] : Array Value)))).objs.size := by
    rw [(Heap.SameBut.update ..).1, Heap.size_push]; exact Nat.le_succ _
  have L : LpI X pins σ z TI TO i1 i2 a b s.heap.objs.size xs ys H0 0 [] H0 { s with heap := (s.heap.push { cls := .type "list", data := .seq #[] }).update s.heap.objs.size (Obj.mapSeq (fun _ => (#[] : Array Value))) } _ :=
    ⟨⟨I.kept (t' := s.toks) oth, Same.refl _, rfl, fun j t h => (by cases h), e2, I.fpOk (Nat.le_refl _) (I.hok.fresh (Nat.le_refl _))⟩, fp, fun c hc => Nat.lt_of_lt_of_le (lt c hc) sz, oth _ _ tie, it1.at fun o q => oth _ o q, it2.at fun o q => oth _ o q, .inl ⟨oth _ _ hz0, u, v, oth _ _ hTO⟩⟩
  exact lp_extend hh D hS qx qy hl hz .none L (oth _ _ hz0) hR
theorem lp_call {A : Around} {E : Value → Shared → Prop} {Q : Value → Shared → Prop} (hh : A.handled = none) (D : ZipApart z TI TO i1 i2 a b) {s : Shared} (qx : SqT X.K H0 a xs) (qy : SqL X.K H0 b ys) (hl : xs.length = ys.length) (hz : xs.length ≤ 1000000)
    (I : Inv X pins σ H0 s) (fp : ∀ c ∈ [z, TI, TO, i1, i2], FpOk X pins H0 c) (lt : ∀ c ∈ [z, TI, TO, i1, i2], c < s.heap.objs.size) (tie : IsTupOf2 s.heap TI (.ref i1) (.ref i2)) (it1 : s.heap.IsTupleIter i1 a 0) (it2 : s.heap.IsListIter i2 b 0)
    (hz0 : IsZip s.heap z TI TO .none) {u v : Value} (hTO : IsTupOf2 s.heap TO u v)
    (hQ : ∀ (s' : Shared) (H' : Hp) (Ts' : List Addr), Inv X pins σ (upd H' s.heap.objs.size (.lst (Ts'.map V.ref))) s' → Same H0 H' → Ts'.length = xs.length → (∀ (j : Nat) (t : Addr), Ts'[j]? = some t → ∃ x y, xs[j]? = some x ∧ ys[j]? = some y ∧ H' t = some (.tup [x, y]) ∧ H0 t = none) →
      H' s.heap.objs.size = none → Q (.ref s.heap.objs.size) s') :
    wpAny (model X.prog X.w) A (call (.type "list") [.ref z]) Q E s := by
  refine callType_codes (Q₁ := fun obj s₁ => obj = .ref s.heap.objs.size ∧ s₁ = { s with heap := s.heap.push { cls := .type "list", data := .seq #[] } }) F.called_list (F.typeCall_list_1 _) F.entry_list_init
    (code_list_new _ ⟨rfl, rfl⟩) fun obj s₁ h₁ => ?_
  obtain ⟨rfl, rfl⟩ := h₁
  refine ⟨⟨_, Heap.get?_push_size _ rfl, rfl⟩, F.args_list_init_2 _ _, lp_init (A := A.in1) hh D qx qy hl hz I fp lt tie it1 it2 hz0 hTO fun s' H' Ts' c' L => ?_⟩
  exact ⟨rfl, hQ s' H' Ts' (lp_take L hz) L.same L.len L.tup L.fpS.1⟩
end
def tListZip (K : PySem.W.Frag) (ta : TA) : TE := fun σ H Q => ta σ H fun vs H1 => ∃ (a b : Addr) (xs ys : List V), vs = [.ref a, .ref b] ∧ SqT K H1 a xs ∧ SqL K H1 b ys ∧ xs.length = ys.length ∧ xs.length ≤ 1000000 ∧
  ∀ (p : Addr) (Ts : List Addr) (H' : Hp), Same H1 H' → Ts.length = xs.length → (∀ (j : Nat) (t : Addr), Ts[j]? = some t → ∃ x y, xs[j]? = some x ∧ ys[j]? = some y ∧ H' t = some (.tup [x, y]) ∧ H1 t = none) → H' p = none → Q (.ref p) (upd H' p (.lst (Ts.map V.ref)))
theorem pe_listZip {X : Cx} {e e2 : Expr} {ta : TA} {p pos p2 pos2 : Pos} (hcalm : X.calm = true) (hgl : Gl X "list") (hml : X.mg "list" = none) (hg : Gl X "zip") (hm : X.mg "zip" = none) (ha : PA X [e, e2] ta)
    (hs : starEach [e, e2] X.env = (false, eval e X.env) :: starEach [e2] X.env := by rfl) (hpl : (backTo pos2 (starEach [e2] X.env)).any (·.1) = false := by rfl)
    (na : starEach [(.Call (.Name "zip" p2) [e, e2] [] pos2 : Expr)] X.env = (false, eval (.Call (.Name "zip" p2) [e, e2] [] pos2) X.env) :: starEach [] X.env := by rfl) :
    PE X (.Call (.Name "list" p) [.Call (.Name "zip" p2) [e, e2] [] pos2] [] pos) (tListZip X.K ta) := by
  refine ⟨fun pins s σ H Q I h => ?_⟩
  refine Call_ (ld_blt I hgl hml boot_list (PyProof.Rows.callWith_type1 (args_cons ?_ na) na))
  refine Call_ (ld_blt I hg hm PyProof.Rows.boot_zip (PyProof.Rows.callWith_type1 (thn (ha.run pos2 pins s σ H _ I h) fun us s1 ⟨vs, H1, I1, r1, q1⟩ => ?_) hs hpl))
  obtain ⟨a, b, xs, ys, ex, hqx, hqy, hl, hz, q⟩ := q1
  subst ex
  obtain ⟨u, u2, rfl, r, r2⟩ : ∃ u u2, us = [u, u2] ∧ RelV (.ref a) u ∧ RelV (.ref b) u2 := by
    cases r1 with
    | cons r rr => cases rr with
      | cons r' rr => cases rr; exact ⟨_, _, rfl, r, r'⟩
  obtain rfl : u = Value.ref a := r
  obtain rfl : u2 = Value.ref b := r2
  obtain ⟨its, rv, p1, _⟩ := I1.tuple hqx
  obtain ⟨its2, rv2, p2, _⟩ := I1.list hqy
  obtain ⟨o1, ho1, _⟩ := id p1
  refine zip_begins2 (begins_tuple a its.toArray) (begins_list b its2.toArray) p1 p2.isList fun h' hz0 hTI hTO h1 h2 hsz hk => args_nil ?_
  have I2 : Inv X pins σ H1 { s1 with heap := h' } := I1.kept (t' := s1.toks) hk
  have mem : ∀ c ∈ [s1.heap.objs.size + 4, s1.heap.objs.size + 2, s1.heap.objs.size + 3, s1.heap.objs.size, s1.heap.objs.size + 1], s1.heap.objs.size ≤ c ∧ c < h'.objs.size := fun c hcm => by
    simp only [List.mem_cons, List.not_mem_nil, or_false] at hcm
    rw [hsz]
    rcases hcm with rfl | rfl | rfl | rfl | rfl
    · exact ⟨Nat.le_add_right _ _, Nat.add_lt_add_left (by decide) _⟩
    · exact ⟨Nat.le_add_right _ _, Nat.add_lt_add_left (by decide) _⟩
    · exact ⟨Nat.le_add_right _ _, Nat.add_lt_add_left (by decide) _⟩
    · exact ⟨Nat.le_refl _, Nat.lt_add_of_pos_right (by decide)⟩
    · exact ⟨Nat.le_add_right _ _, Nat.add_lt_add_left (by decide) _⟩
  refine lp_call (I2.ok.hd hcalm) (PySem.W.ktu_apart s1.heap.objs.size a b (Heap.lt_size ho1) p2.lt) hqx hqy hl hz I2 (fun c hc => I1.fpOk (mem c hc).1 (I1.hok.fresh (mem c hc).1)) (fun c hc => (mem c hc).2) hTI ⟨_, h1, rfl, rfl⟩ ⟨_, h2, rfl, rfl⟩ hz0 hTO fun s' H' Ts' I3 sm ln tp hn => ?_
  exact ⟨.ref _, _, I3, rfl, q _ Ts' H' sm ln tp hn⟩
end
/-! ### the tables of events; event_octets -/
def evD (rows : List (Str × List Str)) : PyData := .tuple (rows.map fun r => .tuple [.str r.1, .tuple (r.2.map PyData.str)])
theorem dpall_strs {K : PySem.W.Frag} {H : Hp} : ∀ {vs : List V} {ss : List Str}, DpAll K H vs (ss.map PyData.str) → vs = ss.map V.str
  | _, [], h => by cases h; rfl
  | _, s :: r, h => by
    cases h with
    | cons h1 h2 => rw [dp_str h1, dpall_strs h2]; rfl
def sp__opcode_of (K : PySem.W.Frag) : Sp := fun vs H Q _ => ∃ (ar : Addr) (rows : List (Str × List Str)) (name : Str) (j : Nat) (row : Str × List Str), vs = [.ref ar, .str name] ∧ Dp K H (.ref ar) (evD rows) ∧ rows.length < 1000 ∧
  rows[j]? = some row ∧ row.1 = name ∧ (∀ (m : Nat) (row' : Str × List Str), m < j → rows[m]? = some row' → row'.1 ≠ name) ∧ ∀ H', Same H H' → Q (.int (j : Nat)) H'
theorem sc__opcode_of : FnScope ["rows", "name", "row"] ["rows", "name"] (defScope s__opcode_of) := ⟨rfl, rfl, rfl, by decide +kernel, rfl, by decide +kernel, by decide +kernel⟩
theorem ok__opcode_of (T : Txt K mg A) : FnOk P w K mg base CX0 1 A.f_opcode_of A.d_opcode_of ["rows", "name"] (sp__opcode_of K) := by
  refine T.F_opcode_of.ok sc__opcode_of (fun vs H Q E h => ?_) (fun cdv Ar outer s H vs Q E hr h => ?_)
  · obtain ⟨_, _, _, _, _, rfl, _⟩ := h
    rfl
  · obtain ⟨ar, rows, name, j, row, rfl, dr, hl, hj, hn, hm, q⟩ := h
    obtain ⟨pr, zs, e0, qs, ds⟩ := dp_tuple dr
    cases e0
    have hzl : zs.length = rows.length := by rw [dpall_len ds, List.length_map]
    refine ⟨_, (pss_one (ps_ret (pe_bm PySem.F.plainAttrs_list PySem.F.slot_list_index PySem.F.type_list_index mt_index (pe_lc (own := [("row", 2)]) (g := (gName 2)) (tt := tYes) rfl sc__opcode_of.nd (pi_tup (pv 0)) (blkOk_by (own := [("row", 2)]) (N := ["rows", "name", "row"]) (sc := defScope s__opcode_of) (by decide +kernel)) (fun _ _ _ _ _ => (pg_name (i := 2) sc__opcode_of.nd rfl (Or.inl rfl))) (fun _ _ _ _ _ => pts_nil) (fun _ _ _ _ _ => by exact (pe_ix (r := rIxT K) ix_tup (pv 2) pe_int (fun _ _ => rfl)))) (pa_cons (pv 1) pa_nil)))), ?_⟩
    refine ⟨_, rfl, ar, rfl, ⟨_, qs⟩, fun D hD => ?_⟩
    refine lc_dp (walk_tup (K := K) (a := ar) (xs := zs)) (K := K) (V0 := H) (H0 := H) (fun i => (rows[i]?).map fun r => PyData.str r.1) _ rfl (Same.refl _) hD (by omega) (fun H' s => s.sqt qs) (fun i x H H' y => y.1) ?_ ?_
    · rintro n z U2 H4 hn' xx ⟨_, hz⟩ Qy Qn hy hno
      obtain ⟨d, hd, dv⟩ := dpall_get ds hz
      rw [List.getElem?_map] at hd
      obtain ⟨r, hr, rfl⟩ := Option.map_eq_some_iff.mp hd
      obtain ⟨pt, ws, rfl, qw, dw⟩ := dp_tuple dv
      cases dw with
      | cons d1 d2 =>
        obtain rfl := dp_str d1
        have qw' := xx.hh.sqt qw
        walk_at "go"
        exact hy (.str r.1) _ _ _ (by rw [hr]; rfl) (Ext.refl xx.vh) (.str _)
    · rintro U2 H4 ws xx uD dA _
      rw [hzl, fm_map] at dA
      have ew : ws = (rows.map fun r => r.1).map V.str := dpall_strs (by rw [List.map_map]; exact dA)
      subst ew
      have eD := xx.vh _ _ uD
      refine ⟨.inl ⟨rfl, _, SqL.of eD⟩, ?_⟩
      walk_at "go"
      have hj2 : ((rows.map fun r => r.1).map V.str)[j]? = some (.str row.1) := by rw [List.getElem?_map, List.getElem?_map, hj]; rfl
      refine ⟨D, _, .str name, j, .str row.1, rfl, rfl, SqL.of eD, rfl, ?_, hj2, ?_, fun m z' hlt hz' => ?_, ?_⟩
      · rw [List.map_map, List.all_map]; exact List.all_eq_true.mpr fun _ _ => rfl
      · show (row.1 == name) = true
        rw [hn]; exact beq_self_eq_true _
      · rw [List.getElem?_map, List.getElem?_map] at hz'
        obtain ⟨y, hy, rfl⟩ := Option.map_eq_some_iff.mp hz'
        obtain ⟨r', hr', rfl⟩ := Option.map_eq_some_iff.mp hy
        show (r'.1 == name) = false
        exact beq_eq_false_iff_ne.mpr (hm m r' hlt hr')
      · exact q _ xx.hh
def sp_event_octets (C : Addr) (w : World) (K : PySem.W.Frag) (B L : Addr) : Sp := fun vs H Q E => ∃ (n : Int) (intf name : Str) (va ar : Addr) (rows : List (Str × List Str)) (j : Nat) (row : Str × List Str) (xs : List V) (args : List Arg), vs = [.int n, .str intf, .str name, .ref va] ∧
  KDct K w C intf (.ref ar) ∧ (∀ H, Dp K H (.ref ar) (evD rows)) ∧ rows.length < 1000 ∧ rows[j]? = some row ∧ row.1 = name ∧ (∀ (m : Nat) (row' : Str × List Str), m < j → rows[m]? = some row' → row'.1 ≠ name) ∧
  SqL K H va xs ∧ xs.length = row.2.length ∧ args.length = row.2.length ∧ row.2.length ≤ 20 ∧ (∀ (i : Nat) (x : V), xs[i]? = some x → ∃ (g : Arg) (k : Str), args[i]? = some g ∧ row.2[i]? = some k ∧ g.kind = k ∧ ArgAt K H x g.val) ∧ (∀ g ∈ args, ArgSpec g.kind g.val true g.os) ∧ (bodyOf args).length < 60000 ∧
  (encBad n j args → ∀ H', Same H H' → E (.ref B) none H') ∧ (¬ encBad n j args → encLong args → ∀ H', Same H H' → E (.ref L) none H') ∧
  (¬ encBad n j args → ¬ encLong args → ∀ p H', NewL H H' p ((msgOcts n j (bodyOf args)).map V.int) → Q (.ref p) H')
theorem sc_event_octets : FnScope ["number", "interface", "name", "values", "rows", "opcode", "kinds"] ["number", "interface", "name", "values"] (defScope s_event_octets) := ⟨rfl, rfl, rfl, by decide +kernel, rfl, by decide +kernel, by decide +kernel⟩
theorem ok_event_octets (T : Txt K mg A) : FnOk P w K mg base (L2.CX P w) 8 A.fevent_octets A.devent_octets ["number", "interface", "name", "values"] (sp_event_octets A.a_EVENTS w K A.CBadMessage A.CMessageTooLong) := by
  refine T.Fevent_octets.okX sc_event_octets (fun vs H Q E h => ?_) (fun cdv Ar outer s H vs Q E hr h => ?_)
  · obtain ⟨_, _, _, _, _, _, _, _, _, _, rfl, _⟩ := h
    rfl
  · obtain ⟨n, intf, name, va, ar, rows, j, row, xs, args, rfl, hd, dr, hl, hj, hn, hm, qx, hxl, hal, h20, hx, hok, hb, qb, ql, q⟩ := h
    obtain ⟨ar', zs, e0, qs, ds⟩ := dp_tuple (dr H)
    cases e0
    refine ⟨_, (pss_cons (ps_set (i := 4) sc_event_octets.nd rfl (Or.inl rfl) (pe_ix (r := rIxD K w) ix_kdict (pe_glob (v := .ref A.a_EVENTS) rfl T.g_EVENTS rfl) (pv 1) (fun _ _ => rfl)))
      (pss_cons (ps_set (i := 5) sc_event_octets.nd rfl (Or.inl rfl) (pe_call (ok__opcode_of T) (hr.mono (by decide)) rfl T.g_opcode_of T.k_opcode_of T.b_opcode_of .nil pass0 (pa_cons (pv 4) (pa_cons (pv 2) pa_nil))))
      (pss_cons (ps_set (i := 6) sc_event_octets.nd rfl (Or.inl rfl) (pe_ix (r := rIxT K) ix_tup (pe_ix (r := rIxT K) ix_tup (pv 4) (pv 5) (fun _ _ => rfl)) pe_int (fun _ _ => rfl)))
      (pss_one (ps_ret (pe_call (ok_encode_message T) (hr.mono (by decide)) rfl T.gencode_message T.kencode_message T.bencode_message .nil (passes_call (takes_of rfl rfl rfl rfl) (fun _ _ _ _ h => h)) (pa_cons (pv 0) (pa_cons (pv 5) (pa_cons (pe_listZip rfl (by rfl) T.list (by rfl) T.zip (pa_cons (pv 6) (pa_cons (pv 3) pa_nil))) pa_nil))))))))), ?_⟩
    have hjz : (rows.map fun r => PyData.tuple [.str r.1, .tuple (r.2.map PyData.str)])[j]? = some (.tuple [.str row.1, .tuple (row.2.map PyData.str)]) := by rw [List.getElem?_map, hj]; rfl
    obtain ⟨z, hz, dz⟩ := dpall_get' ds hjz
    obtain ⟨pt, ws, rfl, qw, dw⟩ := dp_tuple dz
    cases dw with
    | cons d1 d2 => cases d2 with
      | cons d2 d3 =>
        cases d3
        obtain rfl := dp_str d1
        obtain ⟨pk, ks, rfl, qk, dk⟩ := dp_tuple d2
        obtain rfl := dpall_strs dk
        walk_at "go"
        refine ⟨_, _, _, rfl, rfl, hd, ?_⟩
        walk_at "go"
        refine ⟨ar, rows, name, j, row, rfl, dr H, hl, hj, hn, hm, fun H1 s1 => ?_⟩
        have qw1 := s1.sqt qw
        walk_at "go"
        refine ⟨ar, _, _, .ref pt, rfl, rfl, s1.sqt qs, atI_nat hz, ?_⟩
        walk_at "go"
        refine ⟨pk, va, _, xs, rfl, s1.sqt qk, s1.seq qx, by rw [List.length_map]; exact hxl.symm, by rw [List.length_map]; omega, fun p Ts H2 sm ln tp hp => ?_⟩
        have s2 : Same H (upd H2 p (.lst (Ts.map V.ref))) := (s1.trans sm).trans (same_upd hp)
        walk_at "go"
        rw [List.length_map] at ln
        refine ⟨n, j, p, args, rfl, ⟨⟨_, SqL.of upd_same, by rw [List.length_map]; omega, fun i x hi => ?_⟩, hok⟩, hb, by omega, fun c H3 s3 => qb c H3 (s2.trans s3), fun c d H3 s3 => ql c d H3 (s2.trans s3), fun c d p3 H3 nl => q c d p3 H3 ⟨s2.free nl.new, s2.trans nl.same, nl.at_⟩⟩
        rw [List.getElem?_map] at hi
        obtain ⟨t, ht, rfl⟩ := Option.map_eq_some_iff.mp hi
        obtain ⟨x1, y1, e1, e2, e3, e4⟩ := tp i t ht
        rw [List.getElem?_map] at e1
        obtain ⟨k, hk, rfl⟩ := Option.map_eq_some_iff.mp e1
        obtain ⟨g, k', hg, hk', egk, ag⟩ := hx i y1 e2
        have ek : k = k' := Option.some.inj (hk.symm.trans hk')
        refine ⟨g, t, y1, hg, rfl, (same_upd hp).sqt (SqT.of (by rw [egk, ← ek]; exact e3)), ag.to s2⟩
/-! ### views that grow while objects outside of them change -/
structure Grow (U H U' H' : Hp) : Prop where
  vv : Same U U'
  vh : Same U' H'
  nw : ∀ a, U' a ≠ none → U a ≠ none ∨ H a = none
theorem Ext.grow {U H U' H' : Hp} (x : Ext U H U' H') : Grow U H U' H' := ⟨x.vv, x.vh, x.nw⟩
theorem Grow.refl {U H : Hp} (s : Same U H) : Grow U H U H := ⟨Same.refl U, s, fun _ h => Or.inl h⟩
theorem Grow.keepOut {U H U' H' : Hp} (x : Grow U H U' H') {D : Addr} (h : U D = none) (hd : H D ≠ none) : U' D = none := by
  cases e : U' D with
  | none => rfl
  | some o =>
    rcases x.nw D (by rw [e]; exact fun z => by cases z) with q | q
    · exact absurd h q
    · exact absurd q hd
/-- an object outside of the view changes -/
theorem Grow.poke {U H U' H' : Hp} (x : Grow U H U' H') {D : Addr} {o : HO} (h : U' D = none) : Grow U H U' (upd H' D o) :=
  ⟨x.vv, fun b u e => by
    have hb : b ≠ D := fun z => by rw [z, h] at e; cases e
    rw [upd_ne hb]; exact x.vh b u e, x.nw⟩
theorem same_poke {U H : Hp} (s : Same U H) {D : Addr} {o : HO} (h : U D = none) : Same U (upd H D o) := fun b u e => by
  have hb : b ≠ D := fun z => by rw [z, h] at e; cases e
  rw [upd_ne hb]; exact s b u e
/-- what was new behind a change of what the view has not is new ahead of it, if that was there -/
theorem Grow.from_ {U H H1 U' H' : Hp} (x : Grow U H1 U' H') (h : ∀ a, H1 a = none → H a = none) : Grow U H U' H' :=
  ⟨x.vv, x.vh, fun a e => (x.nw a e).imp id (h a)⟩
theorem Grow.trans {U H U1 H1 U2 H2 : Hp} (a : Grow U H U1 H1) (b : Grow U1 H1 U2 H2) (h : ∀ a, H1 a = none → H a = none) : Grow U H U2 H2 :=
  ⟨a.vv.trans b.vv, b.vh, fun x e => by
    rcases b.nw x e with q | q
    · exact a.nw x q
    · exact Or.inr (h x q)⟩
theorem none_poke {H : Hp} {D : Addr} {o : HO} (hd : H D ≠ none) : ∀ a, upd H D o a = none → H a = none := fun a e => by
  by_cases h : a = D
  · subst h; rw [upd_same] at e; cases e
  · rw [upd_ne h] at e; exact e
theorem none_same {H H' : Hp} (s : Same H H') : ∀ a, H' a = none → H a = none := fun a e => s.free e
/-! ### an event that is written, told shortly -/
def EvAt (C : Addr) (w : World) (K : PySem.W.Frag) (H : Hp) (n : Int) (intf name : Str) (va : Addr) (os : List Int) : Prop := ∃ (ar : Addr) (rows : List (Str × List Str)) (j : Nat) (row : Str × List Str) (xs : List V) (args : List Arg),
  KDct K w C intf (.ref ar) ∧ (∀ H, Dp K H (.ref ar) (evD rows)) ∧ rows.length < 1000 ∧ rows[j]? = some row ∧ row.1 = name ∧ (∀ (m : Nat) (row' : Str × List Str), m < j → rows[m]? = some row' → row'.1 ≠ name) ∧
  SqL K H va xs ∧ xs.length = row.2.length ∧ args.length = row.2.length ∧ row.2.length ≤ 20 ∧ (∀ (i : Nat) (x : V), xs[i]? = some x → ∃ (g : Arg) (k : Str), args[i]? = some g ∧ row.2[i]? = some k ∧ g.kind = k ∧ ArgAt K H x g.val) ∧ (∀ g ∈ args, ArgSpec g.kind g.val true g.os) ∧ (bodyOf args).length < 60000 ∧
  ¬ encBad n j args ∧ ¬ encLong args ∧ os = msgOcts n j (bodyOf args)
theorem EvAt.go {C : Addr} {w : World} {K : PySem.W.Frag} {H : Hp} {n : Int} {intf name : Str} {va : Addr} {os : List Int} {B L : Addr} {Q : VK} {E : XK} (h : EvAt C w K H n intf name va os) (q : ∀ p H', NewL H H' p (os.map V.int) → Q (.ref p) H') :
    sp_event_octets C w K B L [.int n, .str intf, .str name, .ref va] H Q E := by
  obtain ⟨ar, rows, j, row, xs, args, h1, h2, h3, h4, h5, h6, h7, h8, h9, h10, h11, h12, h13, h14, h15, rfl⟩ := h
  exact ⟨n, intf, name, va, ar, rows, j, row, xs, args, rfl, h1, h2, h3, h4, h5, h6, h7, h8, h9, h10, h11, h12, h13, fun z => absurd z h14, fun _ z => absurd z h15, fun _ _ => q⟩
theorem EvAt.to {C : Addr} {w : World} {K : PySem.W.Frag} {H H' : Hp} {n : Int} {intf name : Str} {va : Addr} {os : List Int} (h : EvAt C w K H n intf name va os) (s : Same H H') : EvAt C w K H' n intf name va os := by
  obtain ⟨ar, rows, j, row, xs, args, h1, h2, h3, h4, h5, h6, h7, h8, h9, h10, h11, h12, h13, h14, h15, rfl⟩ := h
  exact ⟨ar, rows, j, row, xs, args, h1, h2, h3, h4, h5, h6, s.seq h7, h8, h9, h10, fun i x hx => by obtain ⟨g, k, a1, a2, a3, a4⟩ := h11 i x hx; exact ⟨g, k, a1, a2, a3, a4.to s⟩, h12, h13, h14, h15, rfl⟩
theorem uintOk {i : Int} (h : 0 ≤ i ∧ i ≤ 4294967295) : ArgSpec "uint" (.num i) true (octs (i % 4294967296) 4) := by
  have := ArgSpec.num (i := i) .uint
  rw [decide_eq_true h] at this
  exact this
theorem objOk {i : Int} (h : 1 ≤ i ∧ i ≤ 4294967295) : ArgSpec "object" (.num i) true (octs (i % 4294967296) 4) := by
  have := ArgSpec.num (i := i) .object
  rw [decide_eq_true h] at this
  exact this
theorem intOk {i : Int} (h : -2147483648 ≤ i ∧ i ≤ 2147483647) : ArgSpec "int" (.num i) true (octs (i % 4294967296) 4) := by
  have := ArgSpec.num (i := i) .int
  rw [decide_eq_true h] at this
  exact this
theorem txtOk {s : Str} (h : isText s = true) : ArgSpec "text" (.txt s) true (textOcts s) := by
  have := @ArgSpec.txt s
  rw [h] at this
  exact this
/-- a row of the table of events -/
def EvRow (C : Addr) (w : World) (K : PySem.W.Frag) (intf name : Str) (j : Nat) (ks : List Str) : Prop := ∃ (ar : Addr) (rows : List (Str × List Str)),
  KDct K w C intf (.ref ar) ∧ (∀ H, Dp K H (.ref ar) (evD rows)) ∧ rows.length < 1000 ∧ rows[j]? = some (name, ks) ∧ (∀ (m : Nat) (row' : Str × List Str), m < j → rows[m]? = some row' → row'.1 ≠ name)
def AllAt (K : PySem.W.Frag) (H : Hp) : List V → List Arg → Prop
  | [], [] => True
  | x :: xs, g :: gs => ArgAt K H x g.val ∧ AllAt K H xs gs
  | _, _ => False
theorem AllAt.at {K : PySem.W.Frag} {H : Hp} : ∀ {xs : List V} {gs : List Arg}, AllAt K H xs gs → xs.length = gs.length ∧ ∀ (i : Nat) (x : V), xs[i]? = some x → ∃ g : Arg, gs[i]? = some g ∧ ArgAt K H x g.val
  | [], [], _ => ⟨rfl, fun i x h => by cases h⟩
  | x :: xs, g :: gs, h => by
    obtain ⟨h1, h2⟩ := h
    obtain ⟨e, q⟩ := AllAt.at h2
    refine ⟨congrArg (· + 1) e, fun i y hy => ?_⟩
    cases i with
    | zero => cases hy; exact ⟨g, rfl, h1⟩
    | succ i => exact q i y hy
  | [], _ :: _, h => h.elim
  | _ :: _, [], h => h.elim
theorem EvRow.ev {C : Addr} {w : World} {K : PySem.W.Frag} {intf name : Str} {j : Nat} {ks : List Str} (h : EvRow C w K intf name j ks) {H : Hp} {n : Int} {va : Addr} {xs : List V} (args : List Arg) (hn : 1 ≤ n ∧ n ≤ 4294967295) (hj : j ≤ 1000) (hk : args.map Arg.kind = ks) (h20 : args.length ≤ 20)
    (qx : SqL K H va xs) (hx : AllAt K H xs args) (ok : ∀ g ∈ args, ArgSpec g.kind g.val true g.os) (hb : (bodyOf args).length ≤ 20000) : EvAt C w K H n intf name va (msgOcts n j (bodyOf args)) := by
  obtain ⟨ar, rows, a1, a2, a3, a4, a5⟩ := h
  obtain ⟨e1, e2⟩ := hx.at
  subst hk
  refine ⟨ar, rows, j, _, xs, args, a1, a2, a3, a4, rfl, a5, qx, by rw [e1]; exact (List.length_map ..).symm, (List.length_map ..).symm, by rw [List.length_map]; exact h20, fun i x hi => ?_, ok, by omega, ?_, ?_, rfl⟩
  · obtain ⟨g, hg, ha⟩ := e2 i x hi
    exact ⟨g, g.kind, hg, by rw [List.getElem?_map, hg]; rfl, rfl, ha⟩
  · rintro (z | z | z)
    · exact z hn
    · exact z ⟨by omega, by omega⟩
    · omega
  · unfold encLong; omega
/-! ### fields of instances whose class is known; words that go on by themselves -/
section
open PySem PySem.Spec PyProof.Rows
def tFldC (C : Addr) (ta : TE) (f : Str) : TE := fun σ H Q => ta σ H fun x H1 => ∃ a dx fs v, x = .ref a ∧ H1 a = some (.ins C dx fs) ∧ fs.lookup f = some v ∧ Q v H1
theorem pe_fldC {X : Cx} {e : Expr} {f : Str} {pos : Pos} {ta : TE} {C : Addr} (c : Cls X.K C) (n : NoAttr X.K C f) (he : PE X e ta) (hb : attributeBase e f X.env (eval e X.env) = eval e X.env) : PE X (.Attribute e f pos) (tFldC C ta f) := by
  refine ⟨fun pins s σ H Q I h => ?_⟩
  refine attr_of hb (thn (he.run pins s σ H _ I h) fun u s1 ⟨x, H1, I1, rx, a, dx, fs, v, ex, ea, l, q⟩ => ?_)
  subst ex
  obtain rfl : u = Value.ref a := rx
  exact getattr_ok I1 ea c n l fun u' s2 I2 ru => ⟨v, H1, I2, ru, q⟩
/-- o.f = e: the heap behind it is told by what stands at o, and elsewhere -/
def sFldC (C : Addr) (ta tv : TE) (f : Str) : TS := fun D σ H => tv σ H fun y H1 => ta σ H1 fun x H2 => ∃ a dx fs fs', x = .ref a ∧ H2 a = some (.ins C dx fs) ∧ fs.length < 1000 ∧ putF f y fs = fs' ∧
  ∀ H3 : Hp, H3 a = some (.ins C dx fs') → (∀ b, b ≠ a → H3 b = H2 b) → D.nx σ H3
theorem ps_fldC {X : Cx} {o value : Expr} {f : Str} {pos pos' : Pos} {ta tv : TE} {C : Addr} (c : Cls X.K C) (n : NoAttr X.K C f) (ha : PE X o ta) (hv : PE X value tv) (hs : swapsWith value (some (.Attribute o f pos')) pos.line X.env = pure false) : PS X (.Assign [.Attribute o f pos'] value pos) (sFldC C ta tv f) := by
  refine ⟨fun pins s σ H D I h => ?_⟩
  refine plainObj_wpAny_Assign_Attribute (thn (hv.run pins s σ H _ I h) fun u s1 ⟨y, H1, I1, ry, q⟩ => thn (ha.run pins s1 σ H1 _ I1 q) fun ov s2 ⟨x, H2, I2, rx, a, dx, fs, fs', ex, ea, l, ep, q2⟩ => ?_) hs
  subst ex
  obtain rfl : ov = Value.ref a := rx
  exact setattr_ok I2 ea c n l ry fun s3 I3 => ⟨σ, _, I3, q2 _ (by rw [ep]; exact upd_same) fun b hb => upd_ne hb⟩
end
theorem lk_ne {k k' : Str} {v : V} {r : List (Str × V)} (h : (k == k') = false) : List.lookup k ((k', v) :: r) = List.lookup k r := by rw [List.lookup_cons, h]
theorem pf_nil {f : Str} {v : V} : putF f v [] = [(f, v)] := rfl
theorem pf_eq {f : Str} {v x : V} {r : List (Str × V)} : putF f v ((f, x) :: r) = (f, v) :: r := by
  show (if f = f then _ else _) = _
  rw [if_pos rfl]
theorem pf_ne {f g : Str} {v x : V} {r r' : List (Str × V)} (h : g ≠ f) (e : putF f v r = r') : putF f v ((g, x) :: r) = (g, x) :: r' := by
  show (if g = f then _ else _) = _
  rw [if_neg h, e]
theorem upd_facts {H H2 : Hp} {a : Addr} {o : HO} (h : upd H a o = H2) : H2 a = some o ∧ ∀ b, b ≠ a → H2 b = H b := by
  subst h
  exact ⟨upd_same, fun b hb => upd_ne hb⟩
theorem nn_of {H H' : Hp} (h : ∀ b u, H b = some u → H' b ≠ none) : ∀ b, H' b = none → H b = none := fun b e => by
  cases x : H b with
  | none => rfl
  | some u => exact absurd e (h b u x)
theorem ln_nil {k : Str} : List.lookup k ([] : List (Str × V)) = none := rfl
theorem same_iff {H H' : Hp} : Same H H' ↔ ∀ b, H b ≠ none → H' b = H b :=
  ⟨fun s b h => by
    cases e : H b with
    | none => exact absurd e h
    | some u => exact s b u e, fun s b u e => (s b (by rw [e]; exact fun z => by cases z)).trans e⟩
/-! words for fields and heaps -/
local macro_rules | `(tactic| walk_at "lk") => `(tactic| first
  | exact List.lookup_cons_self
  | (refine (lk_ne (by decide +kernel)).trans ?_; walk_at "lk"))
local macro_rules | `(tactic| walk_at "ln") => `(tactic| first
  | exact ln_nil
  | (refine (lk_ne (by decide +kernel)).trans ?_; walk_at "ln"))
local macro_rules | `(tactic| walk_at "pf") => `(tactic| first
  | exact pf_eq
  | exact pf_nil
  | (apply pf_ne; (focus decide +kernel); walk_at "pf"))
local macro_rules | `(tactic| walk_at "h") => `(tactic| ((try simp only [same_iff] at *); grind [L2.upd]))
local macro_rules | `(tactic| walk_at "gf1") => `(tactic| first
  | refine ⟨_, _, _, _, rfl, (by assumption), (by walk_at "lk"), ?_⟩
  | refine ⟨_, _, _, _, rfl, (by assumption), (by exact Nat.le_of_ble_eq_true rfl), (by walk_at "pf"), ?_⟩
  | refine ⟨_, _, _, rfl, (by assumption), (by walk_at "ln"), ?_⟩
  | refine .inl ⟨rfl, _, SqL.of (by assumption), ?_⟩
  | (refine And.intro (.inl ⟨rfl, _, SqL.of (by assumption)⟩) ?_)
  | walk_at "go2")
local macro_rules | `(tactic| walk_at "gf") => `(tactic| repeat walk_at "gf1")
local macro_rules | `(tactic| walk_at "nn") => `(tactic| walk_at "h")
local macro_rules | `(tactic| walk_at "nl") => `(tactic| ((try unfold L2.tNil); (try dsimp only)))
/-! ### a Reply -/
def rpF (t e w a : V) : List (Str × V) := [("told", t), ("ended", e), ("wishes", w), ("applied", a)]
def tsD (ts : List (List Int)) : PyData := .list (ts.map pInts)
theorem sh_ts (ts : List (List Int)) : Sh 2 (tsD ts) := sh_list fun d hd => by
  obtain ⟨n, _, rfl⟩ := List.mem_map.mp hd
  exact sh_ints n
structure Rp (C : Addr) (K : PySem.W.Frag) (U H : Hp) (o lt le lw : Addr) (ts : List (List Int)) (es : List Int) (ws : List PyData) : Prop where
  ob : ∃ dx va, H o = some (.ins C dx [("told", .ref lt), ("ended", .ref le), ("wishes", .ref lw), ("applied", va)])
  uo : U o = none
  ut : U lt = none
  ue : U le = none
  uw : U lw = none
  n1 : lt ≠ le
  n2 : lt ≠ lw
  n3 : le ≠ lw
  t : ∃ ys, H lt = some (.lst ys) ∧ DpAll K U ys (ts.map pInts)
  e : H le = some (.lst (es.map V.int))
  w : ∃ ys, H lw = some (.lst ys) ∧ DpAll K U ys ws
theorem Rp.frame {C : Addr} {K : PySem.W.Frag} {U H U' H' : Hp} {o lt le lw : Addr} {ts : List (List Int)} {es : List Int} {ws : List PyData} (h : Rp C K U H o lt le lw ts es ws) (s : Same U U')
    (k : ∀ b, H b ≠ none → U b = none → (b = o ∨ b = lt ∨ b = le ∨ b = lw) → U' b = none ∧ H' b = H b) : Rp C K U' H' o lt le lw ts es ws := by
  obtain ⟨dx, va, e1⟩ := h.ob
  obtain ⟨yt, e2, d2⟩ := h.t
  obtain ⟨yw, e4, d4⟩ := h.w
  have e3 := h.e
  have k1 := k _ (by rw [e1]; exact fun z => by cases z) h.uo (.inl rfl)
  have k1 := (show _ ∧ _ = _ from ⟨k1.1, k1.2.trans e1⟩)
  have k2 := k _ (by rw [e2]; exact fun z => by cases z) h.ut (.inr (.inl rfl))
  have k2 := (show _ ∧ _ = _ from ⟨k2.1, k2.2.trans e2⟩)
  have k3 := k _ (by rw [e3]; exact fun z => by cases z) h.ue (.inr (.inr (.inl rfl)))
  have k3 := (show _ ∧ _ = _ from ⟨k3.1, k3.2.trans e3⟩)
  have k4 := k _ (by rw [e4]; exact fun z => by cases z) h.uw (.inr (.inr (.inr rfl)))
  have k4 := (show _ ∧ _ = _ from ⟨k4.1, k4.2.trans e4⟩)
  exact ⟨⟨dx, va, k1.2⟩, k1.1, k2.1, k3.1, k4.1, h.n1, h.n2, h.n3, ⟨yt, k2.2, d2.to s⟩, k3.2, ⟨yw, k4.2, d4.to s⟩⟩
def sp_Reply_tell (CE : Addr) (w : World) (C : Addr) (K : PySem.W.Frag) : Sp := fun vs H Q _ => ∃ (o lt le lw va : Addr) (n : Int) (intf name : Str) (ts : List (List Int)) (es : List Int) (ws : List PyData) (os : List Int) (U : Hp), vs = [.ref o, .int n, .str intf, .str name, .ref va] ∧ Same U H ∧ Rp C K U H o lt le lw ts es ws ∧ EvAt CE w K H n intf name va os ∧ ts.length ≤ 1000 ∧
  ∀ U' H', Same U U' → Same U' H' → (∀ b, U b = none → H b ≠ none → U' b = none) → (∀ b, H' b = none → H b = none) → (∀ b, b ≠ lt → H b ≠ none → H' b = H b) → Rp C K U' H' o lt le lw (ts ++ [os]) es ws → Q .non H'
theorem sc_Reply_tell : FnScope ["self", "number", "interface", "name", "values"] ["self", "number", "interface", "name", "values"] (defScope s_Reply_tell) := ⟨rfl, rfl, rfl, by decide +kernel, rfl, by decide +kernel, by decide +kernel⟩
theorem ok_Reply_tell (T : Txt K mg A) : FnOk P w K mg base CX0 9 A.fReply_tell A.dReply_tell ["self", "number", "interface", "name", "values"] (sp_Reply_tell A.a_EVENTS w A.CReply K) := by
  refine T.FReply_tell.ok sc_Reply_tell (fun vs H Q E h => ?_) (fun cdv Ar outer s H vs Q E hr h => ?_)
  · obtain ⟨_, _, _, _, _, _, _, _, _, _, _, _, _, rfl, _⟩ := h
    rfl
  · obtain ⟨o, lt, le, lw, va, n, intf, name, ts, es, ws, os, U, rfl, sU, R, ev, hl, q⟩ := h
    obtain ⟨dx, wa, e1⟩ := R.ob
    obtain ⟨yt, et, dt⟩ := R.t
    have hyl : yt.length = ts.length := by rw [dpall_len dt, List.length_map]
    refine ⟨_, (pss_one (ps_expr (pe_bm PySem.F.plainAttrs_list PySem.F.slot_list_append PySem.F.type_list_append mt_append (pe_fldC T.clReply T.nReply_told (pv 0) rfl) (pa_cons (pe_call (ok_event_octets T) (hr.mono (by decide)) rfl T.gevent_octets T.kevent_octets T.bevent_octets .nil passL (pa_cons (pv 1) (pa_cons (pv 2) (pa_cons (pv 3) (pa_cons (pv 4) pa_nil))))) pa_nil)))), ?_⟩
    walk_at "gf"
    unfold tNil
    dsimp only
    refine ev.go fun p H2 n2 => ?_
    have np := n2.new
    have ns := n2.same
    have na := n2.at_
    have no : o ≠ lt := ne_of e1 et (by intro z; cases z)
    have s2 : Same U (upd U p (.lst (os.map V.int))) := by walk_at "h"
    have e2 : H2 lt = some (.lst yt) := ns _ _ et
    refine ⟨lt, _, _, rfl, rfl, e2, Nat.lt_of_lt_of_le (m := 100000) (by omega) (by decide), ?_⟩
    have hu := R.ut
    have k1 : ∀ b, b ≠ lt → H b ≠ none → (upd H2 lt (.lst (yt ++ [.ref p]))) b = H b := by walk_at "h"
    refine q (upd U p (.lst (os.map V.int))) _ s2 (by walk_at "h") (by walk_at "h") (by walk_at "nn") k1 ?_
    have R2 : Rp A.CReply K (upd U p (.lst (os.map V.int))) H2 o lt le lw ts es ws := R.frame s2 (by walk_at "h")
    obtain ⟨wx, e4, d4⟩ := R2.w
    have e3 := R2.e
    exact ⟨⟨dx, wa, by walk_at "h"⟩, R2.uo, R2.ut, R2.ue, R2.uw, R2.n1, R2.n2, R2.n3, ⟨_, upd_same, by rw [List.map_append]; exact dpall_app (dt.to s2) (.cons (dp_ints (SqL.of upd_same)) .nil)⟩, by rw [upd_ne R2.n1.symm]; exact e3, ⟨wx, by rw [upd_ne R2.n2.symm]; exact e4, d4⟩⟩
def sp_Reply___init__ (C : Addr) (K : PySem.W.Frag) : Sp := fun vs H Q _ => ∃ (o dx : Addr) (U : Hp), vs = [.ref o] ∧ H o = some (.ins C dx []) ∧ Same U H ∧ U o = none ∧ ∀ (p1 p2 p3 : Addr) (H' : Hp), Same U H' → (∀ b, b ≠ o → H b ≠ none → H' b = H b) → (∀ b, H' b = none → H b = none) → H p1 = none → H p2 = none → H p3 = none →
  Rp C K U H' o p1 p2 p3 [] [] [] → Q .non H'
theorem sc_Reply___init__ : FnScope ["self"] ["self"] (defScope s_Reply___init__) := ⟨rfl, rfl, rfl, by decide +kernel, rfl, by decide +kernel, by decide +kernel⟩
theorem ok_Reply___init__ (T : Txt K mg A) : FnOk P w K mg base CX0 1 A.fReply___init__ A.dReply___init__ ["self"] (sp_Reply___init__ A.CReply K) := by
  refine T.FReply___init__.ok sc_Reply___init__ (fun vs H Q E h => ?_) (fun cdv Ar outer st H vs Q E hr h => ?_)
  · obtain ⟨_, _, _, rfl, _⟩ := h
    rfl
  · obtain ⟨ob, dx, U, rfl, ho, sU, uo, q⟩ := h
    refine ⟨_, (pss_cons (ps_fldC T.clReply T.nReply_told (pv 0) (pe_lst pa_nil) rfl)
      (pss_cons (ps_fldC T.clReply T.nReply_ended (pv 0) (pe_lst pa_nil) rfl)
      (pss_cons (ps_fldC T.clReply T.nReply_wishes (pv 0) (pe_lst pa_nil) rfl)
      (pss_one (ps_fldC T.clReply T.nReply_applied (pv 0) (pe_lst pa_nil) rfl))))), ?_⟩
    refine ⟨len_line (by show 0 ≤ 100000; decide), fun p1 n1 => ?_⟩
    have e1 : (upd H p1 (.lst [])) ob = some (.ins A.CReply dx []) := by walk_at "h"
    walk_at "gf"
    intro H1 f1 k1
    refine ⟨len_line (by show 0 ≤ 100000; decide), fun p2 n2 => ?_⟩
    have e2 : (upd H1 p2 (.lst [])) ob = some (.ins A.CReply dx _) := (same_upd n2) _ _ f1
    walk_at "gf"
    intro H2 f2 k2
    refine ⟨len_line (by show 0 ≤ 100000; decide), fun p3 n3 => ?_⟩
    have e3 : (upd H2 p3 (.lst [])) ob = some (.ins A.CReply dx _) := (same_upd n3) _ _ f2
    walk_at "gf"
    intro H3 f3 k3
    refine ⟨len_line (by show 0 ≤ 100000; decide), fun p4 n4 => ?_⟩
    have e4 : (upd H3 p4 (.lst [])) ob = some (.ins A.CReply dx _) := (same_upd n4) _ _ f3
    walk_at "gf"
    intro H4 f4 k4
    have z1 : p1 ≠ ob := by walk_at "h"
    have z2 : p2 ≠ ob := by walk_at "h"
    have z3 : p3 ≠ ob := by walk_at "h"
    have z4 : p4 ≠ ob := by walk_at "h"
    have g1 : H1 p1 = some (.lst []) := by walk_at "h"
    have g12 : p1 ≠ p2 := by walk_at "h"
    have g2 : H2 p1 = some (.lst []) ∧ H2 p2 = some (.lst []) := by walk_at "h"
    have g13 : p1 ≠ p3 := by walk_at "h"
    have g23 : p2 ≠ p3 := by walk_at "h"
    have g3 : H3 p1 = some (.lst []) ∧ H3 p2 = some (.lst []) ∧ H3 p3 = some (.lst []) := by walk_at "h"
    have g4 : H4 p1 = some (.lst []) ∧ H4 p2 = some (.lst []) ∧ H4 p3 = some (.lst []) := by walk_at "h"
    have m1 : ∀ b, b ≠ ob → H b ≠ none → H1 b = H b := by walk_at "h"
    have m2 : ∀ b, b ≠ ob → H b ≠ none → H2 b = H b := by walk_at "h"
    have m3 : ∀ b, b ≠ ob → H b ≠ none → H3 b = H b := by walk_at "h"
    have m4 : ∀ b, b ≠ ob → H b ≠ none → H4 b = H b := by walk_at "h"
    have f1' : H p1 = none := by walk_at "h"
    have f2' : H p2 = none := by walk_at "h"
    have f3' : H p3 = none := by walk_at "h"
    have sm : Same U H4 := by walk_at "h"
    refine q p1 p2 p3 H4 sm m4 (by walk_at "nn") f1' f2' f3' ⟨⟨dx, _, f4⟩, uo, sU.free f1', sU.free f2', sU.free f3', g12, g13, g23, ⟨[], g4.1, .nil⟩, g4.2.1, ⟨[], g4.2.2, .nil⟩⟩
/-! ### a heap without some places -/
def hide (H : Hp) (a : Addr) : Hp := fun b => if b = a then none else H b
def paneV : List Int → V
  | [] => .non
  | p :: _ => .int p
def ofF (tr kd : Addr) (on : Bool) : List (Str × V) := [("_transfers", .ref tr), ("_kept", .ref kd), ("_is_hovered", .bl on)]
/-- what is not to be looked at -/
structure Hid (p : Prop) : Prop where
  go : p
/-- where words that go on by themselves stop -/
structure Stop (p : Prop) : Prop where
  go : p
  tr : True
theorem stop {p : Prop} (h : p) : Stop p := ⟨h, trivial⟩
/-! ### events of transfer -/
def argU (i : Int) : Arg := ⟨"uint", .num i, octs (i % 4294967296) 4⟩
def argI (i : Int) : Arg := ⟨"int", .num i, octs (i % 4294967296) 4⟩
def argO (i : Int) : Arg := ⟨"object", .num i, octs (i % 4294967296) 4⟩
def argT (s : Str) : Arg := ⟨"text", .txt s, textOcts s⟩
def hovO (p s x y : Int) : List Int := msgOcts p 1 (bodyOf [argO s, argI x, argI y])
def kndO (p : Int) (k : Str) : List Int := msgOcts p 2 (bodyOf [argT k])
def movO (p t x y : Int) : List Int := msgOcts p 3 (bodyOf [argU t, argI x, argI y])
def awyO (p : Int) : List Int := msgOcts p 4 (bodyOf [])
structure Evs (C : Addr) (w : World) (K : PySem.W.Frag) : Prop where
  hov : EvRow C w K "transfer" "hover" 1 ["object", "int", "int"]
  knd : EvRow C w K "transfer" "hover_kind" 2 ["text"]
  mov : EvRow C w K "transfer" "moved" 3 ["uint", "int", "int"]
  awy : EvRow C w K "transfer" "away" 4 []
def small (i : Int) : Prop := -1000 ≤ i ∧ i ≤ 1000
theorem Evs.hovE {C : Addr} {w : World} {K : PySem.W.Frag} (h : Evs C w K) {H : Hp} {va : Addr} {p s x y : Int} (hp : 1 ≤ p ∧ p ≤ 1000) (hs : 1 ≤ s ∧ s ≤ 1000) (hx : small x) (hy : small y) (e : H va = some (.lst [.int s, .int x, .int y])) : EvAt C w K H p "transfer" "hover" va (hovO p s x y) :=
  h.hov.ev [argO s, argI x, argI y] (by omega) (by decide) rfl (by exact Nat.le_of_ble_eq_true rfl) (SqL.of e) ⟨rfl, rfl, rfl, trivial⟩ (fun g hg => by
    unfold small at hx hy
    simp only [List.mem_cons, List.not_mem_nil, or_false] at hg
    rcases hg with rfl | rfl | rfl
    · exact objOk (by omega)
    · exact intOk (by omega)
    · exact intOk (by omega)) (by
    show (octs _ 4 ++ (octs _ 4 ++ (octs _ 4 ++ []))).length ≤ _
    rw [List.length_append, List.length_append, List.length_append, octs_len, octs_len, octs_len]; decide)
theorem Evs.movE {C : Addr} {w : World} {K : PySem.W.Frag} (h : Evs C w K) {H : Hp} {va : Addr} {p t x y : Int} (hp : 1 ≤ p ∧ p ≤ 1000) (hs : 0 ≤ t ∧ t ≤ 4294967295) (hx : small x) (hy : small y) (e : H va = some (.lst [.int t, .int x, .int y])) : EvAt C w K H p "transfer" "moved" va (movO p t x y) :=
  h.mov.ev [argU t, argI x, argI y] (by omega) (by decide) rfl (by exact Nat.le_of_ble_eq_true rfl) (SqL.of e) ⟨rfl, rfl, rfl, trivial⟩ (fun g hg => by
    unfold small at hx hy
    simp only [List.mem_cons, List.not_mem_nil, or_false] at hg
    rcases hg with rfl | rfl | rfl
    · exact uintOk (by omega)
    · exact intOk (by omega)
    · exact intOk (by omega)) (by
    show (octs _ 4 ++ (octs _ 4 ++ (octs _ 4 ++ []))).length ≤ _
    rw [List.length_append, List.length_append, List.length_append, octs_len, octs_len, octs_len]; decide)
theorem Evs.awyE {C : Addr} {w : World} {K : PySem.W.Frag} (h : Evs C w K) {H : Hp} {va : Addr} {p : Int} (hp : 1 ≤ p ∧ p ≤ 1000) (e : H va = some (.lst [])) : EvAt C w K H p "transfer" "away" va (awyO p) :=
  h.awy.ev [] (by omega) (by decide) rfl (by decide) (SqL.of e) trivial (fun g hg => by cases hg) (by decide)
theorem Evs.kndE {C : Addr} {w : World} {K : PySem.W.Frag} (h : Evs C w K) {H : Hp} {va : Addr} {p : Int} {k : Str} (hp : 1 ≤ p ∧ p ≤ 1000) (hk : isText k = true ∧ k.length ≤ 50) (e : H va = some (.lst [.str k])) : EvAt C w K H p "transfer" "hover_kind" va (kndO p k) :=
  h.knd.ev [argT k] (by omega) (by decide) rfl (by exact Nat.le_of_ble_eq_true rfl) (SqL.of e) ⟨⟨rfl, by have := hk.2; omega⟩, trivial⟩ (fun g hg => by
    simp only [List.mem_cons, List.not_mem_nil, or_false] at hg
    subst hg
    exact txtOk hk.1) (by
    show (textOcts k ++ []).length ≤ _
    have := textOcts_len k
    rw [List.length_append]
    show (textOcts k).length + 0 ≤ _
    omega)
/-! ### the panes -/
structure Of (C : Addr) (K : PySem.W.Frag) (U H : Hp) (f tr kd : Addr) (panes : List Int) (on : Bool) : Prop where
  ob : ∃ dx, H f = some (.ins C dx [("_transfers", .ref tr), ("_kept", .ref kd), ("_is_hovered", .bl on)])
  l : H tr = some (.lst (panes.map V.int))
  k : U kd = some (.dK [])
  uf : U f = none
  ut : U tr = none
  ok : panes.length ≤ 100 ∧ ∀ p ∈ panes, 1 ≤ p ∧ p ≤ 1000
theorem Of.frame {C : Addr} {K : PySem.W.Frag} {U H U' H' : Hp} {f tr kd : Addr} {panes : List Int} {on : Bool} (h : Of C K U H f tr kd panes on) (s : Same U U')
    (k : ∀ b, H b ≠ none → U b = none → (b = f ∨ b = tr) → U' b = none ∧ H' b = H b) : Of C K U' H' f tr kd panes on := by
  obtain ⟨dx, e1⟩ := h.ob
  have k1 := k _ (by rw [e1]; exact fun z => by cases z) h.uf (.inl rfl)
  have k1 := (show _ ∧ _ = _ from ⟨k1.1, k1.2.trans e1⟩)
  have k2 := k _ (by rw [h.l]; exact fun z => by cases z) h.ut (.inr rfl)
  have k2 := (show _ ∧ _ = _ from ⟨k2.1, k2.2.trans h.l⟩)
  exact ⟨⟨dx, k1.2⟩, k2.2, s _ _ h.k, k1.1, k2.1, h.ok⟩
def sp_Offers_pane (C : Addr) (K : PySem.W.Frag) : Sp := fun vs H Q _ => ∃ (f tr kd : Addr) (panes : List Int) (on : Bool) (U : Hp), vs = [.ref f] ∧ Of C K U H f tr kd panes on ∧ Q (paneV panes) H
theorem sc_Offers_pane : FnScope ["self"] ["self"] (defScope s_Offers_pane) := ⟨rfl, rfl, rfl, by decide +kernel, rfl, by decide +kernel, by decide +kernel⟩
theorem ok_Offers_pane (T : Txt K mg A) : FnOk P w K mg base CX0 1 A.fOffers_pane A.dOffers_pane ["self"] (sp_Offers_pane A.COffers K) := by
  refine T.FOffers_pane.ok sc_Offers_pane (fun vs H Q E h => ?_) (fun cdv Ar outer s H vs Q E hr h => ?_)
  · obtain ⟨_, _, _, _, _, _, rfl, _⟩ := h
    rfl
  · obtain ⟨f, tr, kd, panes, on, U, rfl, O, q⟩ := h
    obtain ⟨dx, e1⟩ := O.ob
    have e2 := O.l
    refine ⟨_, (pss_one (ps_ret (pe_ifExp (pt_truth (pe_fldC T.clOffers T.nOffers__transfers (pv 0) rfl) (by intro _; rfl)) (pe_ix (r := rIxL K) ix_list (pe_fldC T.clOffers T.nOffers__transfers (pv 0) rfl) pe_int (fun _ _ => rfl)) pe_non))), ?_⟩
    walk_at "gf"
    refine ⟨_, .inl ⟨_, SqL.of e2, rfl⟩, ?_⟩
    cases panes with
    | nil => exact if_f rfl q
    | cons p r =>
      refine if_t rfl ?_
      walk_at "gf"
      exact q
def sp_Offers_bound (C : Addr) (K : PySem.W.Frag) : Sp := fun vs H Q _ => ∃ (f tr kd : Addr) (panes : List Int) (on : Bool) (n : Int) (U : Hp), vs = [.ref f, .int n] ∧ Of C K U H f tr kd panes on ∧ ∀ H', H' tr = some (.lst ((panes ++ [n]).map V.int)) → (∀ b, b ≠ tr → H' b = H b) → Q .non H'
theorem sc_Offers_bound : FnScope ["self", "number"] ["self", "number"] (defScope s_Offers_bound) := ⟨rfl, rfl, rfl, by decide +kernel, rfl, by decide +kernel, by decide +kernel⟩
theorem ok_Offers_bound (T : Txt K mg A) : FnOk P w K mg base CX0 1 A.fOffers_bound A.dOffers_bound ["self", "number"] (sp_Offers_bound A.COffers K) := by
  refine T.FOffers_bound.ok sc_Offers_bound (fun vs H Q E h => ?_) (fun cdv Ar outer s H vs Q E hr h => ?_)
  · obtain ⟨_, _, _, _, _, _, _, rfl, _⟩ := h
    rfl
  · obtain ⟨f, tr, kd, panes, on, n, U, rfl, O, q⟩ := h
    obtain ⟨dx, e1⟩ := O.ob
    have e2 := O.l
    have hl := O.ok.1
    refine ⟨_, (pss_one (ps_expr (pe_bm PySem.F.plainAttrs_list PySem.F.slot_list_append PySem.F.type_list_append mt_append (pe_fldC T.clOffers T.nOffers__transfers (pv 0) rfl) (pa_cons (pv 1) pa_nil)))), ?_⟩
    walk_at "gf"
    refine ⟨tr, _, _, rfl, rfl, e2, Nat.lt_of_lt_of_le (m := 100000) (by rw [List.length_map]; omega) (by decide), ?_⟩
    exact q _ (by rw [upd_same, List.map_append]; rfl) (fun b hb => upd_ne hb)
theorem inV_ints (n : Int) : ∀ ns : List Int, inV (.int n) (ns.map V.int) = decide (n ∈ ns)
  | [] => rfl
  | a :: r => by
    show ((a == n) || inV (.int n) (r.map V.int)) = _
    rw [inV_ints n r]
    by_cases h : a = n
    · subst h; simp
    · have : ¬ n = a := fun z => h z.symm
      simp [this, beq_eq_false_iff_ne.mpr h]
def sp_Offers_forget (C : Addr) (K : PySem.W.Frag) : Sp := fun vs H Q _ => ∃ (f tr kd : Addr) (panes : List Int) (on : Bool) (n : Int) (U : Hp), vs = [.ref f, .int n] ∧ Same U H ∧ Of C K U H f tr kd panes on ∧ n ∈ panes ∧ ∀ H', H' tr = some (.lst ((panes.erase n).map V.int)) → (∀ b, b ≠ tr → H' b = H b) → Q .non H'
theorem sc_Offers_forget : FnScope ["self", "number"] ["self", "number"] (defScope s_Offers_forget) := ⟨rfl, rfl, rfl, by decide +kernel, rfl, by decide +kernel, by decide +kernel⟩
theorem ok_Offers_forget (T : Txt K mg A) : FnOk P w K mg base CX0 1 A.fOffers_forget A.dOffers_forget ["self", "number"] (sp_Offers_forget A.COffers K) := by
  refine T.FOffers_forget.ok sc_Offers_forget (fun vs H Q E h => ?_) (fun cdv Ar outer s H vs Q E hr h => ?_)
  · obtain ⟨_, _, _, _, _, _, _, rfl, _⟩ := h
    rfl
  · obtain ⟨f, tr, kd, panes, on, n, U, rfl, sU, O, hm, q⟩ := h
    obtain ⟨dx, e1⟩ := O.ob
    have e2 := O.l
    have e3 := O.k
    have nf : f ≠ tr := ne_of e1 e2 (by intro z; cases z)
    have ut := O.ut
    refine ⟨_, (pss_cons (ps_if (pt_cmpR op_in_seq (pv 1) (pe_fldC T.clOffers T.nOffers__transfers (pv 0) rfl) (by rfl))
      (pss_one (ps_expr (pe_bm PySem.F.plainAttrs_list PySem.F.slot_list_remove PySem.F.type_list_remove mt_remove (pe_fldC T.clOffers T.nOffers__transfers (pv 0) rfl) (pa_cons (pv 1) pa_nil))))
      pss_nil)
      (pss_one (ps_if (pt_cmp (pc_din (hu_of hr) (pv 1) (pe_fldC T.clOffers T.nOffers__kept (pv 0) rfl)))
      (pss_one (ps_ddel (pe_fldC T.clOffers T.nOffers__kept (pv 0) rfl) (pv 1)))
      pss_nil))), ?_⟩
    walk_at "gf"
    refine ⟨?_, ?_⟩
    · rw [List.all_map]; exact List.all_eq_true.mpr fun _ _ => rfl
    rw [if_neg Bool.false_ne_true, inV_ints, decide_eq_true hm]
    refine ⟨_, rfl, if_t rfl ?_⟩
    walk_at "gf"
    obtain ⟨j, h1, h2, h3, h4⟩ := first_at hm
    refine ⟨tr, panes, n, j, rfl, rfl, e2, h2, h3, ?_⟩
    rw [h4]
    generalize hH : upd H tr (.lst ((panes.erase n).map V.int)) = H2
    obtain ⟨f2, k2⟩ := upd_facts hH
    have e1' : H2 f = some _ := (k2 f nf).trans e1
    have e3' : H2 kd = some (.dK []) := by walk_at "h"
    walk_at "gf"
    refine ⟨kd, _, rfl, DGet.k (k := .inl n) e3', ?_⟩
    refine ⟨_, rfl, if_f rfl ?_⟩
    exact q H2 f2 k2
def sp_Offers_dropped (C : Addr) (K : PySem.W.Frag) : Sp := fun vs H Q _ => ∃ (f tr kd : Addr) (panes : List Int) (on : Bool) (U : Hp), vs = [.ref f] ∧ Of C K U H f tr kd panes on ∧ ∀ H', (∀ U', Same U' H' → U' f = none → U' tr = none → U' kd = some (.dK []) → Of C K U' H' f tr kd panes false) → (∀ b, b ≠ f → H' b = H b) → H' f ≠ none → Q .non H'
theorem sc_Offers_dropped : FnScope ["self"] ["self"] (defScope s_Offers_dropped) := ⟨rfl, rfl, rfl, by decide +kernel, rfl, by decide +kernel, by decide +kernel⟩
theorem ok_Offers_dropped (T : Txt K mg A) : FnOk P w K mg base CX0 1 A.fOffers_dropped A.dOffers_dropped ["self"] (sp_Offers_dropped A.COffers K) := by
  refine T.FOffers_dropped.ok sc_Offers_dropped (fun vs H Q E h => ?_) (fun cdv Ar outer s H vs Q E hr h => ?_)
  · obtain ⟨_, _, _, _, _, _, rfl, _⟩ := h
    rfl
  · obtain ⟨f, tr, kd, panes, on, U, rfl, O, q⟩ := h
    obtain ⟨dx, e1⟩ := O.ob
    have e2 := O.l
    have nf : f ≠ tr := ne_of e1 e2 (by intro z; cases z)
    refine ⟨_, (pss_one (ps_fldC T.clOffers T.nOffers__is_hovered (pv 0) pe_bl rfl)), ?_⟩
    walk_at "gf"
    intro H2 f2 k2
    exact q H2 (fun U' s u1 u2 u3 => ⟨⟨dx, f2⟩, (k2 tr nf.symm).trans e2, u3, u1, u2, O.ok⟩) k2 (by rw [f2]; exact fun z => by cases z)
/-! told of a drag -/
def hovT (panes : List Int) (s x y : Int) (ks : List Str) : List (List Int) := match panes with
  | [] => []
  | p :: _ => hovO p s x y :: ks.map (kndO p)
def movT (panes : List Int) (on : Bool) (t x y : Int) : List (List Int) := match panes with
  | [] => []
  | p :: _ => if on then [movO p t x y] else []
def awyT (panes : List Int) (on : Bool) : List (List Int) := match panes with
  | [] => []
  | p :: _ => if on then [awyO p] else []
/-- the rows of goods: texts, and something -/
structure Gds (K : PySem.W.Frag) (U : Hp) (g : Addr) (ks : List Str) : Prop where
  ex : ∃ zs : List V, SqL K U g zs ∧ zs.length = ks.length ∧ ∀ (i : Nat) (z : V), zs[i]? = some z → ∃ (k : Str) (t : Addr) (v : V), z = .ref t ∧ ks[i]? = some k ∧ SqT K U t [.str k, v]
  ok : ks.length ≤ 10 ∧ ∀ k ∈ ks, isText k = true ∧ k.length ≤ 50
theorem Gds.to {K : PySem.W.Frag} {U U' : Hp} {g : Addr} {ks : List Str} (h : Gds K U g ks) (s : Same U U') : Gds K U' g ks := by
  obtain ⟨ts, h1, h2, h3⟩ := h.ex
  exact ⟨⟨ts, s.seq h1, h2, fun i z hz => by obtain ⟨k, t, v, e, a, b⟩ := h3 i z hz; exact ⟨k, t, v, e, a, s.sqt b⟩⟩, h.ok⟩
def sp_Offers_hovers (CE : Addr) (w : World) (CR C : Addr) (K : PySem.W.Frag) : Sp := fun vs H Q _ => ∃ (f tr kd g o lt le lw : Addr) (panes : List Int) (on : Bool) (s x y : Int) (ks : List Str) (U : Hp), vs = [.ref f, .int s, .int x, .int y, .ref g, .ref o] ∧ Same U H ∧ Evs CE w K ∧ Of C K U H f tr kd panes on ∧ Gds K U g ks ∧ Rp CR K U H o lt le lw [] [] [] ∧
  f ≠ o ∧ f ≠ lt ∧ tr ≠ lt ∧ f ≠ le ∧ f ≠ lw ∧ 1 ≤ s ∧ s ≤ 1000 ∧ small x ∧ small y ∧ ∀ U' H', Same U U' → Same U' H' → (∀ b, U b = none → H b ≠ none → U' b = none) → (∀ b, H' b = none → H b = none) → (∀ b, b ≠ f → b ≠ lt → H b ≠ none → H' b = H b) →
    Of C K U' H' f tr kd panes (!panes.isEmpty) → Rp CR K U' H' o lt le lw (hovT panes s x y ks) [] [] → Q .non H'
theorem sc_Offers_hovers : FnScope ["self", "surface", "x", "y", "goods", "reply", "pane", "kind", "_"] ["self", "surface", "x", "y", "goods", "reply"] (defScope s_Offers_hovers) := ⟨rfl, rfl, rfl, by decide +kernel, rfl, by decide +kernel, by decide +kernel⟩
theorem ok_Offers_hovers (T : Txt K mg A) : FnOk P w K mg base CX0 10 A.fOffers_hovers A.dOffers_hovers ["self", "surface", "x", "y", "goods", "reply"] (sp_Offers_hovers A.a_EVENTS w A.CReply A.COffers K) := by
  refine T.FOffers_hovers.ok sc_Offers_hovers (fun vs H Q E h => ?_) (fun cdv Ar outer st H vs Q E hr h => ?_)
  · obtain ⟨_, _, _, _, _, _, _, _, _, _, _, _, _, _, _, rfl, _⟩ := h
    rfl
  · obtain ⟨f, tr, kd, g, o, lt, le, lw, panes, on, s, x, y, ks, U, rfl, sU, ev, O, G, R, n1, n2, n3, n4, n5, s1, s2, hx, hy, q⟩ := h
    obtain ⟨dx, e1⟩ := O.ob
    have e2 := O.l
    have nf : f ≠ tr := ne_of e1 e2 (by intro z; cases z)
    have uf := O.uf
    have ut := O.ut
    obtain ⟨ts, g1, g2, g3⟩ := G.ex
    refine ⟨_, (pss_cons (ps_set (i := 6) sc_Offers_hovers.nd rfl (Or.inl rfl) (pe_meth0 (pv 0) T.clOffers T.mOffers_pane (ok_Offers_pane T) (hr.mono (by decide)) T.bOffers_pane .nil pass0))
      (pss_cons (ps_fldC T.clOffers T.nOffers__is_hovered (pv 0) (pe_cmpR op_notN (pv 6) pe_non (nomark _)) rfl)
      (pss_cons (ps_if (pt_cmpR op_isN (pv 6) pe_non (nomark _))
      (pss_one ps_retN)
      pss_nil)
      (pss_cons (ps_expr (pe_meth (pv 5) T.clReply T.mReply_tell (ok_Reply_tell T) (hr.mono (by decide)) T.bReply_tell .nil pass0 (pa_cons (pv 6) (pa_cons pe_str (pa_cons pe_str (pa_cons (pe_lst (pa_cons (pv 1) (pa_cons (pv 2) (pa_cons (pv 3) pa_nil)))) pa_nil))))))
      (pss_one (ps_for PassesOwn.never rfl (pi_list (pv 4)) (pg_tup rfl (pgs_cons (pg_name (i := 7) sc_Offers_hovers.nd rfl (Or.inl rfl)) (pgs_cons (pg_name (i := 8) sc_Offers_hovers.nd rfl (Or.inl rfl)) pgs_nil)))
      (pss_one (ps_expr (pe_meth (pv 5) T.clReply T.mReply_tell (ok_Reply_tell T) (hr.mono (by decide)) T.bReply_tell .nil pass0 (pa_cons (pv 6) (pa_cons pe_str (pa_cons pe_str (pa_cons (pe_lst (pa_cons (pv 7) pa_nil)) pa_nil))))))))))))), ?_⟩
    walk_at "gf"
    refine ⟨f, tr, kd, panes, on, U, rfl, O, ?_⟩
    walk_at "gf"
    intro H2 f2 k2
    have s2' : Same U H2 := by walk_at "h"
    have R2 : Rp A.CReply K U H2 o lt le lw [] [] [] := R.frame (Same.refl _) (by walk_at "h")
    have m2 : ∀ b, H2 b = none → H b = none := by walk_at "h"
    have O2 : Of A.COffers K U H2 f tr kd panes (!decide (paneV panes = .non)) := ⟨⟨dx, f2⟩, (k2 tr nf.symm).trans e2, O.k, uf, ut, O.ok⟩
    cases panes with
    | nil =>
      walk_at "gf"
      exact q U H2 (Same.refl _) s2' (fun b h _ => h) m2 (by walk_at "h") O2 R2
    | cons p r =>
      have hp := O.ok.2 p List.mem_cons_self
      obtain ⟨dxr, wa, eo⟩ := R2.ob
      walk_at "gf"
      rename_i va hva
      walk_at "nl"
      have uo := R2.uo
      have u3 : Same U (upd H2 va (.lst [.int s, .int x, .int y])) := by walk_at "h"
      refine ⟨o, lt, le, lw, va, p, "transfer", "hover", [], [], [], hovO p s x y, U, rfl, u3, R2.frame (Same.refl _) (by walk_at "h"), ev.hovE hp ⟨s1, s2⟩ hx hy upd_same, by decide, fun U4 H4 v4 s4 o4 m4 k4 R4 => ?_⟩
      have O4 : Of A.COffers K U4 H4 f tr kd (p :: r) true := O2.frame v4 (by walk_at "h")
      walk_at "gf"
      have G4 := G.to v4
      obtain ⟨ts, g1, g2, g3⟩ := G4.ex
      refine ⟨⟨_, s4.seq g1⟩, for_list (K := K) (a := g) (xs := ts) (fun i σ H' => ∃ (U' : Hp) (v7 v8 : Option V), σ = [some (.ref f), some (.int s), some (.int x), some (.int y), some (.ref g), some (.ref o), some (.int p), v7, v8] ∧ Same U4 U' ∧ Same U' H' ∧ (∀ b, U4 b = none → H4 b ≠ none → U' b = none) ∧ (∀ b, H' b = none → H4 b = none) ∧ (∀ b, b ≠ lt → H4 b ≠ none → H' b = H4 b) ∧ Rp A.CReply K U' H' o lt le lw (hovO p s x y :: (ks.take i).map (kndO p)) [] [])
        ⟨U4, _, _, rfl, Same.refl _, s4, fun b h _ => h, fun b h => h, fun b _ _ => rfl, R4⟩ (fun i σ H' _ ⟨U', _, _, _, a1, a2, _⟩ => (a1.trans a2).seq g1) ?_ ?_⟩
      · rintro i z σ H5 hi ⟨U5, v7, v8, rfl, v5, s5, o5, m5, k5, R5⟩
        obtain ⟨k, t, v, rfl, hk, qt⟩ := g3 i z hi
        have qt5 := (v5.trans s5).sqt qt
        obtain ⟨dxr5, wa5, eo5⟩ := R5.ob
        have hki := G.ok.2 k (List.mem_of_getElem? hk)
        walk_at "gf"
        rename_i vb hvb
        walk_at "nl"
        have u6 : Same U5 (upd H5 vb (.lst [.str k])) := by walk_at "h"
        refine ⟨o, lt, le, lw, vb, p, "transfer", "hover_kind", hovO p s x y :: (ks.take i).map (kndO p), [], [], kndO p k, U5, rfl, u6, R5.frame (Same.refl _) (by walk_at "h"), ev.kndE hp hki upd_same, ?_, fun U6 H6 v6 s6 o6 m6 k6 R6 => ?_⟩
        · have := G.ok.1
          rw [List.length_cons, List.length_map, List.length_take]; omega
        refine ⟨U6, _, _, rfl, v5.trans v6, s6, by walk_at "h", by walk_at "h", by walk_at "h", ?_⟩
        rw [List.take_succ_eq_append_getElem (by obtain ⟨a, b⟩ := List.getElem?_eq_some_iff.mp hk; exact a), List.map_append, ← List.cons_append]
        obtain ⟨a, b⟩ := List.getElem?_eq_some_iff.mp hk
        rw [b]; exact R6
      · rintro σ H5 ⟨U5, v7, v8, rfl, v5, s5, o5, m5, k5, R5⟩
        rw [g2, List.take_length] at R5
        have O5 : Of A.COffers K U5 H5 f tr kd (p :: r) true := O4.frame v5 (by walk_at "h")
        exact q U5 H5 (v4.trans v5) s5 (by walk_at "h") (by walk_at "h") (by walk_at "h") O5 R5
def sp_Offers_moves (CE : Addr) (w : World) (CR C : Addr) (K : PySem.W.Frag) : Sp := fun vs H Q _ => ∃ (f tr kd o lt le lw : Addr) (panes : List Int) (on : Bool) (t x y : Int) (U : Hp), vs = [.ref f, .int t, .int x, .int y, .ref o] ∧ Same U H ∧ Evs CE w K ∧ Of C K U H f tr kd panes on ∧ Rp CR K U H o lt le lw [] [] [] ∧
  0 ≤ t ∧ t ≤ 4294967295 ∧ small x ∧ small y ∧ ∀ U' H', Same U U' → Same U' H' → (∀ b, U b = none → H b ≠ none → U' b = none) → (∀ b, H' b = none → H b = none) → (∀ b, b ≠ lt → H b ≠ none → H' b = H b) →
    Rp CR K U' H' o lt le lw (movT panes on t x y) [] [] → Q .non H'
theorem sc_Offers_moves : FnScope ["self", "time", "x", "y", "reply", "pane"] ["self", "time", "x", "y", "reply"] (defScope s_Offers_moves) := ⟨rfl, rfl, rfl, by decide +kernel, rfl, by decide +kernel, by decide +kernel⟩
theorem ok_Offers_moves (T : Txt K mg A) : FnOk P w K mg base CX0 10 A.fOffers_moves A.dOffers_moves ["self", "time", "x", "y", "reply"] (sp_Offers_moves A.a_EVENTS w A.CReply A.COffers K) := by
  refine T.FOffers_moves.ok sc_Offers_moves (fun vs H Q E h => ?_) (fun cdv Ar outer st H vs Q E hr h => ?_)
  · obtain ⟨_, _, _, _, _, _, _, _, _, _, _, _, _, rfl, _⟩ := h
    rfl
  · obtain ⟨f, tr, kd, o, lt, le, lw, panes, on, t, x, y, U, rfl, sU, ev, O, R, s1, s2, hx, hy, q⟩ := h
    obtain ⟨dx, e1⟩ := O.ob
    refine ⟨_, (pss_cons (ps_set (i := 5) sc_Offers_moves.nd rfl (Or.inl rfl) (pe_meth0 (pv 0) T.clOffers T.mOffers_pane (ok_Offers_pane T) (hr.mono (by decide)) T.bOffers_pane .nil pass0))
      (pss_one (ps_if (PW.pt (pw_and (pt_val (pe_fldC T.clOffers T.nOffers__is_hovered (pv 0) rfl)) (pw_and1 (pt_cmpR op_notN (pv 5) pe_non (nomark _)))))
      (pss_one (ps_expr (pe_meth (pv 4) T.clReply T.mReply_tell (ok_Reply_tell T) (hr.mono (by decide)) T.bReply_tell .nil pass0 (pa_cons (pv 5) (pa_cons pe_str (pa_cons pe_str (pa_cons (pe_lst (pa_cons (pv 1) (pa_cons (pv 2) (pa_cons (pv 3) pa_nil)))) pa_nil)))))))
      pss_nil))), ?_⟩
    walk_at "gf"
    refine ⟨f, tr, kd, panes, on, U, rfl, O, ?_⟩
    walk_at "gf"
    cases on with
    | false =>
      refine if_f rfl ?_
      have e : movT panes false t x y = [] := by cases panes <;> rfl
      rw [e] at q
      exact q U H (Same.refl _) sU (fun b h _ => h) (fun b h => h) (fun b _ _ => rfl) R
    | true =>
      refine if_t rfl ?_
      cases panes with
      | nil =>
        walk_at "gf"
        exact q U H (Same.refl _) sU (fun b h _ => h) (fun b h => h) (fun b _ _ => rfl) R
      | cons p r =>
        have hp := O.ok.2 p List.mem_cons_self
        obtain ⟨dxr, wa, eo⟩ := R.ob
        have uo := R.uo
        walk_at "gf"
        rename_i va hva
        walk_at "nl"
        refine ⟨o, lt, le, lw, va, p, "transfer", "moved", [], [], [], movO p t x y, U, rfl, by walk_at "h", R.frame (Same.refl _) (by walk_at "h"), ev.movE hp ⟨s1, s2⟩ hx hy upd_same, by decide, fun U4 H4 v4 s4 o4 m4 k4 R4 => ?_⟩
        exact q U4 H4 v4 s4 (by walk_at "h") (by walk_at "h") (by walk_at "h") R4
def sp_Offers_leaves (CE : Addr) (w : World) (CR C : Addr) (K : PySem.W.Frag) : Sp := fun vs H Q _ => ∃ (f tr kd o lt le lw : Addr) (panes : List Int) (on : Bool) (U : Hp), vs = [.ref f, .ref o] ∧ Same U H ∧ Evs CE w K ∧ Of C K U H f tr kd panes on ∧ Rp CR K U H o lt le lw [] [] [] ∧
  f ≠ o ∧ f ≠ lt ∧ tr ≠ lt ∧ f ≠ le ∧ f ≠ lw ∧ ∀ U' H', Same U U' → Same U' H' → (∀ b, U b = none → H b ≠ none → U' b = none) → (∀ b, H' b = none → H b = none) → (∀ b, b ≠ f → b ≠ lt → H b ≠ none → H' b = H b) →
    Of C K U' H' f tr kd panes false → Rp CR K U' H' o lt le lw (awyT panes on) [] [] → Q .non H'
theorem sc_Offers_leaves : FnScope ["self", "reply", "pane"] ["self", "reply"] (defScope s_Offers_leaves) := ⟨rfl, rfl, rfl, by decide +kernel, rfl, by decide +kernel, by decide +kernel⟩
theorem ok_Offers_leaves (T : Txt K mg A) : FnOk P w K mg base CX0 10 A.fOffers_leaves A.dOffers_leaves ["self", "reply"] (sp_Offers_leaves A.a_EVENTS w A.CReply A.COffers K) := by
  refine T.FOffers_leaves.ok sc_Offers_leaves (fun vs H Q E h => ?_) (fun cdv Ar outer st H vs Q E hr h => ?_)
  · obtain ⟨_, _, _, _, _, _, _, _, _, _, rfl, _⟩ := h
    rfl
  · obtain ⟨f, tr, kd, o, lt, le, lw, panes, on, U, rfl, sU, ev, O, R, n1, n2, n3, n4, n5, q⟩ := h
    obtain ⟨dx, e1⟩ := O.ob
    have e2 := O.l
    have nf : f ≠ tr := ne_of e1 e2 (by intro z; cases z)
    have uf := O.uf
    have ut := O.ut
    refine ⟨_, (pss_cons (ps_set (i := 2) sc_Offers_leaves.nd rfl (Or.inl rfl) (pe_meth0 (pv 0) T.clOffers T.mOffers_pane (ok_Offers_pane T) (hr.mono (by decide)) T.bOffers_pane .nil pass0))
      (C8.pss_cut (ps_if (PW.pt (pw_and (pt_val (pe_fldC T.clOffers T.nOffers__is_hovered (pv 0) rfl)) (pw_and1 (pt_cmpR op_notN (pv 2) pe_non (nomark _)))))
      (pss_one (ps_expr (pe_meth (pv 1) T.clReply T.mReply_tell (ok_Reply_tell T) (hr.mono (by decide)) T.bReply_tell .nil pass0 (pa_cons (pv 2) (pa_cons pe_str (pa_cons pe_str (pa_cons (pe_lst pa_nil) pa_nil)))))))
      pss_nil)
      (pss_one (ps_fldC T.clOffers T.nOffers__is_hovered (pv 0) pe_bl rfl)))), ?_⟩
    walk_at "gf"
    refine ⟨f, tr, kd, panes, on, U, rfl, O, ?_⟩
    walk_at "gf"
    refine ⟨fun σ H4 => ∃ U4, σ = [some (.ref f), some (.ref o), some (paneV panes)] ∧ Same U U4 ∧ Same U4 H4 ∧ (∀ b, U b = none → H b ≠ none → U4 b = none) ∧ (∀ b, H4 b = none → H b = none) ∧ (∀ b, b ≠ lt → H b ≠ none → H4 b = H b) ∧ Rp A.CReply K U4 H4 o lt le lw (awyT panes on) [] [], ?_, ?_⟩
    · walk_at "gf"
      cases on with
      | false =>
        refine if_f rfl ?_
        have e : awyT panes false = [] := by cases panes <;> rfl
        rw [e]
        exact ⟨U, rfl, Same.refl _, sU, fun b h _ => h, fun b h => h, fun b _ _ => rfl, R⟩
      | true =>
        refine if_t rfl ?_
        cases panes with
        | nil =>
          walk_at "gf"
          exact ⟨U, rfl, Same.refl _, sU, fun b h _ => h, fun b h => h, fun b _ _ => rfl, R⟩
        | cons p r =>
          have hp := O.ok.2 p List.mem_cons_self
          obtain ⟨dxr, wa, eo⟩ := R.ob
          have uo := R.uo
          walk_at "gf"
          rename_i va hva
          walk_at "nl"
          refine ⟨o, lt, le, lw, va, p, "transfer", "away", [], [], [], awyO p, U, rfl, by walk_at "h", R.frame (Same.refl _) (by walk_at "h"), ev.awyE hp upd_same, by decide, fun U4 H4 v4 s4 o4 m4 k4 R4 => ?_⟩
          exact ⟨U4, rfl, v4, s4, by walk_at "h", by walk_at "h", by walk_at "h", R4⟩
    · rintro σ H4 ⟨U4, rfl, v4, s4, o4, m4, k4, R4⟩
      have O4 : Of A.COffers K U4 H4 f tr kd panes on := O.frame v4 (by walk_at "h")
      obtain ⟨dx4, e4⟩ := O4.ob
      have e5 := O4.l
      have u4 := O4.uf
      walk_at "gf"
      intro H5 f5 k5
      have O5 : Of A.COffers K U4 H5 f tr kd panes false := ⟨⟨dx4, f5⟩, (k5 tr nf.symm).trans e5, O4.k, u4, O4.ut, O.ok⟩
      exact q U4 H5 v4 (by walk_at "h") o4 (by walk_at "h") (by walk_at "h") O5 (R4.frame (Same.refl _) (by walk_at "h"))
/-! ### the holdings: what of them never changes here -/
structure Hd (A : Adr) (U : Hp) (h f : Addr) : Prop where
  ex : ∃ (dx a1 a2 a3 d1 d2 d3 d4 x1 x2 x3 : Addr) (v : V), U h = some (.ins A.CHoldings dx [("_sources", .ref a1), ("_offers", .ref f), ("_captures", .ref a2), ("_fetches", .ref a3), ("_sent_names", v)]) ∧ U a1 = some (.ins A.CSources x1 [("_sources", .ref d1)]) ∧ U d1 = some (.dK []) ∧
    U a2 = some (.ins A.CCaptures x2 [("_pictures", .ref d2)]) ∧ U d2 = some (.dK []) ∧ U a3 = some (.ins A.CFetches x3 [("_fetches", .ref d3), ("_watches", .ref d4)]) ∧ U d3 = some (.dK []) ∧ U d4 = some (.dK [])
theorem Hd.to {A : Adr} {U U' : Hp} {h f : Addr} (x : Hd A U h f) (s : Same U U') : Hd A U' h f := by
  obtain ⟨dx, a1, a2, a3, d1, d2, d3, d4, x1, x2, x3, v, z1, z2, z3, z4, z5, z6, z7, z8⟩ := x.ex
  exact ⟨dx, a1, a2, a3, d1, d2, d3, d4, x1, x2, x3, v, s _ _ z1, s _ _ z2, s _ _ z3, s _ _ z4, s _ _ z5, s _ _ z6, s _ _ z7, s _ _ z8⟩
/-- a method of holdings that hands on to the offers -/
def spH (A : Adr) (sp : Sp) : Sp := fun vs H Q E => ∃ (h f : Addr) (r : List V), vs = .ref h :: r ∧ Hd A H h f ∧ sp (.ref f :: r) H Q E
theorem sc_Holdings_hovers : FnScope ["self", "surface", "x", "y", "goods", "reply"] ["self", "surface", "x", "y", "goods", "reply"] (defScope s_Holdings_hovers) := ⟨rfl, rfl, rfl, by decide +kernel, rfl, by decide +kernel, by decide +kernel⟩
theorem ok_Holdings_hovers (T : Txt K mg A) : FnOk P w K mg base CX0 11 A.fHoldings_hovers A.dHoldings_hovers ["self", "surface", "x", "y", "goods", "reply"] (spH A (sp_Offers_hovers A.a_EVENTS w A.CReply A.COffers K)) := by
  refine T.FHoldings_hovers.ok sc_Holdings_hovers (fun vs H Q E h => ?_) (fun cdv Ar outer st H vs Q E hr h => ?_)
  · obtain ⟨h, f, r, rfl, hd, f', tr, kd, g, o, lt, le, lw, panes, on, s, x, y, ks, U, e, _⟩ := h
    cases e; rfl
  · obtain ⟨h, f, r, rfl, hd, f', tr, kd, g, o, lt, le, lw, panes, on, s, x, y, ks, U, e, z⟩ := h
    cases e
    obtain ⟨dx, a1, a2, a3, d1, d2, d3, d4, x1, x2, x3, v, z1, _⟩ := hd.ex
    obtain ⟨sU, ev, O, rest⟩ := z
    obtain ⟨dxo, eo⟩ := O.ob
    refine ⟨_, (pss_one (ps_expr (pe_meth (pe_fldC T.clHoldings T.nHoldings__offers (pv 0) rfl) T.clOffers T.mOffers_hovers (ok_Offers_hovers T) (hr.mono (by decide)) T.bOffers_hovers .nil pass0 (pa_cons (pv 1) (pa_cons (pv 2) (pa_cons (pv 3) (pa_cons (pv 4) (pa_cons (pv 5) pa_nil)))))))), ?_⟩
    walk_at "gf"
    exact ⟨f, tr, kd, g, o, lt, le, lw, panes, on, s, x, y, ks, U, rfl, sU, ev, O, rest⟩
theorem sc_Holdings_moves : FnScope ["self", "time", "x", "y", "reply"] ["self", "time", "x", "y", "reply"] (defScope s_Holdings_moves) := ⟨rfl, rfl, rfl, by decide +kernel, rfl, by decide +kernel, by decide +kernel⟩
theorem ok_Holdings_moves (T : Txt K mg A) : FnOk P w K mg base CX0 11 A.fHoldings_moves A.dHoldings_moves ["self", "time", "x", "y", "reply"] (spH A (sp_Offers_moves A.a_EVENTS w A.CReply A.COffers K)) := by
  refine T.FHoldings_moves.ok sc_Holdings_moves (fun vs H Q E h => ?_) (fun cdv Ar outer st H vs Q E hr h => ?_)
  · obtain ⟨h, f, r, rfl, hd, f', tr, kd, o, lt, le, lw, panes, on, t, x, y, U, e, _⟩ := h
    cases e; rfl
  · obtain ⟨h, f, r, rfl, hd, f', tr, kd, o, lt, le, lw, panes, on, t, x, y, U, e, z⟩ := h
    cases e
    obtain ⟨dx, a1, a2, a3, d1, d2, d3, d4, x1, x2, x3, v, z1, _⟩ := hd.ex
    obtain ⟨sU, ev, O, rest⟩ := z
    obtain ⟨dxo, eo⟩ := O.ob
    refine ⟨_, (pss_one (ps_expr (pe_meth (pe_fldC T.clHoldings T.nHoldings__offers (pv 0) rfl) T.clOffers T.mOffers_moves (ok_Offers_moves T) (hr.mono (by decide)) T.bOffers_moves .nil pass0 (pa_cons (pv 1) (pa_cons (pv 2) (pa_cons (pv 3) (pa_cons (pv 4) pa_nil))))))), ?_⟩
    walk_at "gf"
    exact ⟨f, tr, kd, o, lt, le, lw, panes, on, t, x, y, U, rfl, sU, ev, O, rest⟩
theorem sc_Holdings_leaves : FnScope ["self", "reply"] ["self", "reply"] (defScope s_Holdings_leaves) := ⟨rfl, rfl, rfl, by decide +kernel, rfl, by decide +kernel, by decide +kernel⟩
theorem ok_Holdings_leaves (T : Txt K mg A) : FnOk P w K mg base CX0 11 A.fHoldings_leaves A.dHoldings_leaves ["self", "reply"] (spH A (sp_Offers_leaves A.a_EVENTS w A.CReply A.COffers K)) := by
  refine T.FHoldings_leaves.ok sc_Holdings_leaves (fun vs H Q E h => ?_) (fun cdv Ar outer st H vs Q E hr h => ?_)
  · obtain ⟨h, f, r, rfl, hd, f', tr, kd, o, lt, le, lw, panes, on, U, e, _⟩ := h
    cases e; rfl
  · obtain ⟨h, f, r, rfl, hd, f', tr, kd, o, lt, le, lw, panes, on, U, e, z⟩ := h
    cases e
    obtain ⟨dx, a1, a2, a3, d1, d2, d3, d4, x1, x2, x3, v, z1, _⟩ := hd.ex
    obtain ⟨sU, ev, O, rest⟩ := z
    obtain ⟨dxo, eo⟩ := O.ob
    refine ⟨_, (pss_one (ps_expr (pe_meth (pe_fldC T.clHoldings T.nHoldings__offers (pv 0) rfl) T.clOffers T.mOffers_leaves (ok_Offers_leaves T) (hr.mono (by decide)) T.bOffers_leaves .nil pass0 (pa_cons (pv 1) pa_nil)))), ?_⟩
    walk_at "gf"
    exact ⟨f, tr, kd, o, lt, le, lw, panes, on, U, rfl, sU, ev, O, rest⟩
theorem sc_Holdings_dropped : FnScope ["self"] ["self"] (defScope s_Holdings_dropped) := ⟨rfl, rfl, rfl, by decide +kernel, rfl, by decide +kernel, by decide +kernel⟩
theorem ok_Holdings_dropped (T : Txt K mg A) : FnOk P w K mg base CX0 2 A.fHoldings_dropped A.dHoldings_dropped ["self"] (spH A (sp_Offers_dropped A.COffers K)) := by
  refine T.FHoldings_dropped.ok sc_Holdings_dropped (fun vs H Q E h => ?_) (fun cdv Ar outer st H vs Q E hr h => ?_)
  · obtain ⟨h, f, r, rfl, hd, f', tr, kd, panes, on, U, e, _⟩ := h
    cases e; rfl
  · obtain ⟨h, f, r, rfl, hd, f', tr, kd, panes, on, U, e, O, rest⟩ := h
    cases e
    obtain ⟨dx, a1, a2, a3, d1, d2, d3, d4, x1, x2, x3, v, z1, _⟩ := hd.ex
    obtain ⟨dxo, eo⟩ := O.ob
    refine ⟨_, (pss_one (ps_expr (pe_meth0 (pe_fldC T.clHoldings T.nHoldings__offers (pv 0) rfl) T.clOffers T.mOffers_dropped (ok_Offers_dropped T) (hr.mono (by decide)) T.bOffers_dropped .nil pass0))), ?_⟩
    walk_at "gf"
    exact ⟨f, tr, kd, panes, on, U, rfl, O, rest⟩
theorem sc_Holdings_bound : FnScope ["self", "number"] ["self", "number"] (defScope s_Holdings_bound) := ⟨rfl, rfl, rfl, by decide +kernel, rfl, by decide +kernel, by decide +kernel⟩
theorem ok_Holdings_bound (T : Txt K mg A) : FnOk P w K mg base CX0 2 A.fHoldings_bound A.dHoldings_bound ["self", "number"] (spH A (sp_Offers_bound A.COffers K)) := by
  refine T.FHoldings_bound.ok sc_Holdings_bound (fun vs H Q E h => ?_) (fun cdv Ar outer st H vs Q E hr h => ?_)
  · obtain ⟨h, f, r, rfl, hd, f', tr, kd, panes, on, n, U, e, _⟩ := h
    cases e; rfl
  · obtain ⟨h, f, r, rfl, hd, f', tr, kd, panes, on, n, U, e, O, rest⟩ := h
    cases e
    obtain ⟨dx, a1, a2, a3, d1, d2, d3, d4, x1, x2, x3, v, z1, _⟩ := hd.ex
    obtain ⟨dxo, eo⟩ := O.ob
    refine ⟨_, (pss_one (ps_expr (pe_meth (pe_fldC T.clHoldings T.nHoldings__offers (pv 0) rfl) T.clOffers T.mOffers_bound (ok_Offers_bound T) (hr.mono (by decide)) T.bOffers_bound .nil pass0 (pa_cons (pv 1) pa_nil)))), ?_⟩
    walk_at "gf"
    exact ⟨f, tr, kd, panes, on, n, U, rfl, O, rest⟩
theorem sc_Holdings_pane : FnScope ["self"] ["self"] (defScope s_Holdings_pane) := ⟨rfl, rfl, rfl, by decide +kernel, rfl, by decide +kernel, by decide +kernel⟩
theorem ok_Holdings_pane (T : Txt K mg A) : FnOk P w K mg base CX0 2 A.fHoldings_pane A.dHoldings_pane ["self"] (spH A (sp_Offers_pane A.COffers K)) := by
  refine T.FHoldings_pane.ok sc_Holdings_pane (fun vs H Q E h => ?_) (fun cdv Ar outer st H vs Q E hr h => ?_)
  · obtain ⟨h, f, r, rfl, hd, f', tr, kd, panes, on, U, e, _⟩ := h
    cases e; rfl
  · obtain ⟨h, f, r, rfl, hd, f', tr, kd, panes, on, U, e, O, rest⟩ := h
    cases e
    obtain ⟨dx, a1, a2, a3, d1, d2, d3, d4, x1, x2, x3, v, z1, _⟩ := hd.ex
    obtain ⟨dxo, eo⟩ := O.ob
    refine ⟨_, (pss_one (ps_ret (pe_meth0 (pe_fldC T.clHoldings T.nHoldings__offers (pv 0) rfl) T.clOffers T.mOffers_pane (ok_Offers_pane T) (hr.mono (by decide)) T.bOffers_pane .nil pass0))), ?_⟩
    walk_at "gf"
    exact ⟨f, tr, kd, panes, on, U, rfl, O, rest⟩
/-- forget of a dict that is empty -/
def spNo (C : Addr) (n1 : Str) : Sp := fun vs H Q _ => ∃ (o dx d : Addr) (n : Int), vs = [.ref o, .int n] ∧ H o = some (.ins C dx [(n1, .ref d)]) ∧ H d = some (.dK []) ∧ Q .non H
theorem sc_Sources_forget : FnScope ["self", "number"] ["self", "number"] (defScope s_Sources_forget) := ⟨rfl, rfl, rfl, by decide +kernel, rfl, by decide +kernel, by decide +kernel⟩
theorem ok_Sources_forget (T : Txt K mg A) : FnOk P w K mg base CX0 1 A.fSources_forget A.dSources_forget ["self", "number"] (spNo A.CSources "_sources") := by
  refine T.FSources_forget.ok sc_Sources_forget (fun vs H Q E h => ?_) (fun cdv Ar outer st H vs Q E hr h => ?_)
  · obtain ⟨_, _, _, _, rfl, _⟩ := h
    rfl
  · obtain ⟨o, dx, d, n, rfl, e1, e2, q⟩ := h
    refine ⟨_, (pss_one (ps_if (pt_cmp (pc_din (hu_of hr) (pv 1) (pe_fldC T.clSources T.nSources__sources (pv 0) rfl)))
      (pss_one (ps_ddel (pe_fldC T.clSources T.nSources__sources (pv 0) rfl) (pv 1)))
      pss_nil)), ?_⟩
    walk_at "gf"
    refine ⟨d, _, rfl, DGet.k (k := .inl n) e2, ?_⟩
    exact ⟨_, rfl, if_f rfl q⟩
theorem sc_Captures_forget : FnScope ["self", "number"] ["self", "number"] (defScope s_Captures_forget) := ⟨rfl, rfl, rfl, by decide +kernel, rfl, by decide +kernel, by decide +kernel⟩
theorem ok_Captures_forget (T : Txt K mg A) : FnOk P w K mg base CX0 1 A.fCaptures_forget A.dCaptures_forget ["self", "number"] (spNo A.CCaptures "_pictures") := by
  refine T.FCaptures_forget.ok sc_Captures_forget (fun vs H Q E h => ?_) (fun cdv Ar outer st H vs Q E hr h => ?_)
  · obtain ⟨_, _, _, _, rfl, _⟩ := h
    rfl
  · obtain ⟨o, dx, d, n, rfl, e1, e2, q⟩ := h
    refine ⟨_, (pss_one (ps_if (pt_cmp (pc_din (hu_of hr) (pv 1) (pe_fldC T.clCaptures T.nCaptures__pictures (pv 0) rfl)))
      (pss_one (ps_ddel (pe_fldC T.clCaptures T.nCaptures__pictures (pv 0) rfl) (pv 1)))
      pss_nil)), ?_⟩
    walk_at "gf"
    refine ⟨d, _, rfl, DGet.k (k := .inl n) e2, ?_⟩
    exact ⟨_, rfl, if_f rfl q⟩
def sp_Fetches_forget (C : Addr) : Sp := fun vs H Q _ => ∃ (o dx d d2 : Addr) (n : Int), vs = [.ref o, .int n] ∧ H o = some (.ins C dx [("_fetches", .ref d), ("_watches", .ref d2)]) ∧ H d = some (.dK []) ∧ H d2 = some (.dK []) ∧ Q .non H
theorem sc_Fetches_forget : FnScope ["self", "number"] ["self", "number"] (defScope s_Fetches_forget) := ⟨rfl, rfl, rfl, by decide +kernel, rfl, by decide +kernel, by decide +kernel⟩
theorem ok_Fetches_forget (T : Txt K mg A) : FnOk P w K mg base CX0 1 A.fFetches_forget A.dFetches_forget ["self", "number"] (sp_Fetches_forget A.CFetches) := by
  refine T.FFetches_forget.ok sc_Fetches_forget (fun vs H Q E h => ?_) (fun cdv Ar outer st H vs Q E hr h => ?_)
  · obtain ⟨_, _, _, _, _, rfl, _⟩ := h
    rfl
  · obtain ⟨o, dx, d, d2, n, rfl, e1, e2, e3, q⟩ := h
    refine ⟨_, (pss_cons (ps_if (pt_cmp (pc_din (hu_of hr) (pv 1) (pe_fldC T.clFetches T.nFetches__fetches (pv 0) rfl)))
      (pss_one (ps_ddel (pe_fldC T.clFetches T.nFetches__fetches (pv 0) rfl) (pv 1)))
      pss_nil)
      (pss_one (ps_if (pt_cmp (pc_din (hu_of hr) (pv 1) (pe_fldC T.clFetches T.nFetches__watches (pv 0) rfl)))
      (pss_one (ps_ddel (pe_fldC T.clFetches T.nFetches__watches (pv 0) rfl) (pv 1)))
      pss_nil))), ?_⟩
    walk_at "gf"
    refine ⟨d, _, rfl, DGet.k (k := .inl n) e2, ?_⟩
    refine ⟨_, rfl, if_f rfl ?_⟩
    walk_at "gf"
    refine ⟨d2, _, rfl, DGet.k (k := .inl n) e3, ?_⟩
    exact ⟨_, rfl, if_f rfl q⟩
def sp_Holdings_ended (A : Adr) (K : PySem.W.Frag) : Sp := fun vs H Q _ => ∃ (h f tr kd : Addr) (panes : List Int) (on : Bool) (n : Int) (U : Hp), vs = [.ref h, .int n] ∧ Hd A U h f ∧ Same U H ∧ Of A.COffers K U H f tr kd panes on ∧ n ∈ panes ∧ ∀ H', H' tr = some (.lst ((panes.erase n).map V.int)) → (∀ b, b ≠ tr → H' b = H b) → Q .non H'
theorem sc_Holdings_ended : FnScope ["self", "number"] ["self", "number"] (defScope s_Holdings_ended) := ⟨rfl, rfl, rfl, by decide +kernel, rfl, by decide +kernel, by decide +kernel⟩
theorem ok_Holdings_ended (T : Txt K mg A) : FnOk P w K mg base CX0 2 A.fHoldings_ended A.dHoldings_ended ["self", "number"] (sp_Holdings_ended A K) := by
  refine T.FHoldings_ended.ok sc_Holdings_ended (fun vs H Q E h => ?_) (fun cdv Ar outer st H vs Q E hr h => ?_)
  · obtain ⟨_, _, _, _, _, _, _, _, rfl, _⟩ := h
    rfl
  · obtain ⟨h, f, tr, kd, panes, on, n, U, rfl, hd, sU, O, hm, q⟩ := h
    obtain ⟨dx, a1, a2, a3, d1, d2, d3, d4, x1, x2, x3, v, z1, z2, z3, z4, z5, z6, z7, z8⟩ := (hd.to sU).ex
    obtain ⟨dxo, eo⟩ := O.ob
    have ut := O.ut
    refine ⟨_, (pss_cons (ps_expr (pe_meth (pe_fldC T.clHoldings T.nHoldings__sources (pv 0) rfl) T.clSources T.mSources_forget (ok_Sources_forget T) (hr.mono (by decide)) T.bSources_forget .nil pass0 (pa_cons (pv 1) pa_nil)))
      (pss_cons (ps_expr (pe_meth (pe_fldC T.clHoldings T.nHoldings__offers (pv 0) rfl) T.clOffers T.mOffers_forget (ok_Offers_forget T) (hr.mono (by decide)) T.bOffers_forget .nil pass0 (pa_cons (pv 1) pa_nil)))
      (pss_cons (ps_expr (pe_meth (pe_fldC T.clHoldings T.nHoldings__captures (pv 0) rfl) T.clCaptures T.mCaptures_forget (ok_Captures_forget T) (hr.mono (by decide)) T.bCaptures_forget .nil pass0 (pa_cons (pv 1) pa_nil)))
      (pss_one (ps_expr (pe_meth (pe_fldC T.clHoldings T.nHoldings__fetches (pv 0) rfl) T.clFetches T.mFetches_forget (ok_Fetches_forget T) (hr.mono (by decide)) T.bFetches_forget .nil pass0 (pa_cons (pv 1) pa_nil))))))), ?_⟩
    walk_at "gf"
    refine ⟨a1, x1, d1, n, rfl, z2, z3, ?_⟩
    walk_at "gf"
    refine ⟨f, tr, kd, panes, on, n, U, rfl, sU, O, hm, fun H2 f2 k2 => ?_⟩
    have s2 : Same U H2 := by walk_at "h"
    obtain ⟨dx, a1, a2, a3, d1, d2, d3, d4, x1, x2, x3, v, z1, z2, z3, z4, z5, z6, z7, z8⟩ := (hd.to s2).ex
    walk_at "gf"
    refine ⟨a2, x2, d2, n, rfl, z4, z5, ?_⟩
    walk_at "gf"
    exact ⟨a3, x3, d3, d4, n, rfl, z6, z7, z8, q H2 f2 k2⟩
/-! ### _law_move, _law_leave, _law_hover -/
def LawSt (A : Adr) (K : PySem.W.Frag) (U H : Hp) (h f tr kd : Addr) (panes : List Int) (on : Bool) : Prop := Hd A U h f ∧ Same U H ∧ Of A.COffers K U H f tr kd panes on
def spL (A : Adr) (K : PySem.W.Frag) (C : Addr) (w : World) (arg : Bool) (nxt : List Int → Bool → Bool) : Sp := fun vs H Q _ => ∃ (h f tr kd : Addr) (panes : List Int) (on : Bool) (r : Int) (U : Hp), vs = (if arg then [.ref h, paneV panes, .bl on] else [.ref h, paneV panes, .int r]) ∧ Evs C w K ∧ LawSt A K U H h f tr kd panes on ∧
  ∀ U' H', (∀ b, H' b = none → H b = none) → (∀ b, U b = none → H b ≠ none → U' b = none) → Same U U' → (∀ b, b ≠ f → H b ≠ none → H' b = H b) → LawSt A K U' H' h f tr kd panes (nxt panes on) → Q (.bl true) H'
def sp__law_move (A : Adr) (K : PySem.W.Frag) (C : Addr) (w : World) : Sp := fun vs H Q _ => ∃ (h f tr kd : Addr) (panes : List Int) (on : Bool) (r : Int) (U : Hp), vs = [.ref h, paneV panes, .bl on, .int r] ∧ Evs C w K ∧ LawSt A K U H h f tr kd panes on ∧
  ∀ U' H', (∀ b, H' b = none → H b = none) → (∀ b, U b = none → H b ≠ none → U' b = none) → Same U U' → (∀ b, b ≠ f → H b ≠ none → H' b = H b) → LawSt A K U' H' h f tr kd panes on → Q (.bl true) H'
theorem sc__law_move : FnScope ["holdings", "pane", "on", "row", "time", "x", "due", "reply"] ["holdings", "pane", "on", "row"] (defScope s__law_move) := ⟨rfl, rfl, rfl, by decide +kernel, rfl, by decide +kernel, by decide +kernel⟩
theorem ok__law_move (T : Txt K mg A) : FnOk P w K mg base CX0 12 A.f_law_move A.d_law_move ["holdings", "pane", "on", "row"] (sp__law_move A K A.a_EVENTS w) := by
  refine T.F_law_move.ok sc__law_move (fun vs H Q E h => ?_) (fun cdv Ar outer st H vs Q E hr h => ?_)
  · obtain ⟨_, _, _, _, _, _, _, _, rfl, _⟩ := h
    rfl
  · obtain ⟨h, f, tr, kd, panes, on, r, U, rfl, ev, ⟨hd, sU, O⟩, q⟩ := h
    replace q := Hid.mk q
    obtain ⟨dxf, ef⟩ := O.ob
    have etr := O.l
    have uf := O.uf
    have ut := O.ut
    refine ⟨_, (pss_cons (ps_set (i := 4) sc__law_move.nd rfl (Or.inl rfl) (pe_op op_mod (pe_callTy call_int1 (by rfl) T.int (by decide +kernel) (pa_cons (pv 3) pa_nil)) pe_int))
      (pss_cons (ps_set (i := 5) sc__law_move.nd rfl (Or.inl rfl) (pe_op op_sub (pe_op op_mod (pe_callTy call_int1 (by rfl) T.int (by decide +kernel) (pa_cons (pe_op op_fdiv (pv 3) pe_int) pa_nil)) pe_int) pe_int))
      (pss_cons (ps_set (i := 6) sc__law_move.nd rfl (Or.inl rfl) (pe_lst pa_nil))
      (C8.pss_cut (ps_if (PW.pt (pw_and (pt_cmpR op_notN (pv 1) pe_non (nomark _)) (pw_and1 (pt_val (pv 2)))))
      (pss_one (ps_expr (pe_bm PySem.F.plainAttrs_list PySem.F.slot_list_append PySem.F.type_list_append mt_append (pv 6) (pa_cons (pe_call (ok_event_octets T) (hr.mono (by decide)) rfl T.gevent_octets T.kevent_octets T.bevent_octets .nil passL (pa_cons (pv 1) (pa_cons pe_str (pa_cons pe_str (pa_cons (pe_lst (pa_cons (pv 4) (pa_cons (pv 5) (pa_cons pe_int pa_nil)))) pa_nil))))) pa_nil))))
      pss_nil)
      (pss_cons (ps_set (i := 7) sc__law_move.nd rfl (Or.inl rfl) (pe_make0 T.MReply (ok_Reply___init__ T) (hr.mono (by decide)) rfl T.gReply T.bReply___init__ .nil pass0))
      (pss_cons (ps_expr (pe_meth (pv 0) T.clHoldings T.mHoldings_moves (ok_Holdings_moves T) (hr.mono (by decide)) T.bHoldings_moves .nil pass0 (pa_cons (pv 4) (pa_cons (pv 5) (pa_cons pe_int (pa_cons (pv 7) pa_nil))))))
      (pss_one (ps_ret (pe_cmpR (op_eqD hr.units) (pe_fldC T.clReply T.nReply_told (pv 7) rfl) (pv 6) (nomark _)))))))))), ?_⟩
    walk_at "gf"
    rename_i du hdu
    have udu := sU.free hdu
    have ht : 0 ≤ (r % 4294967296) ∧ (r % 4294967296) ≤ 4294967295 := by omega
    have hx : small (r / 7 % 100 - 50) := by unfold small; omega
    have hy : small 3 := by unfold small; omega
    refine ⟨fun σ H4 => ∃ U4 zs, σ = [some (.ref h), some (paneV panes), some (.bl on), some (.int r), some (.int (r % 4294967296)), some (.int (r / 7 % 100 - 50)), some (.ref du), none] ∧ Same U U4 ∧ Same U4 H4 ∧ (∀ b, U b = none → H b ≠ none → U4 b = none) ∧ (∀ b, H4 b = none → H b = none) ∧ (∀ b, H b ≠ none → H4 b = H b) ∧ U4 du = none ∧ H4 du = some (.lst zs) ∧ DpAll K U4 zs ((movT panes on (r % 4294967296) (r / 7 % 100 - 50) 3).map pInts), ?_, ?_⟩
    · cases panes with
      | nil =>
        walk_at "gf"
        exact ⟨U, [], rfl, Same.refl _, by walk_at "h", fun b h _ => h, by walk_at "nn", by walk_at "h", by walk_at "h", upd_same, .nil⟩
      | cons p rr =>
        have hp := O.ok.2 p List.mem_cons_self
        cases on with
        | false =>
          walk_at "gf"
          exact ⟨U, [], rfl, Same.refl _, by walk_at "h", fun b h _ => h, by walk_at "nn", by walk_at "h", by walk_at "h", upd_same, .nil⟩
        | true =>
          have edu : (upd H du (.lst [])) du = some (.lst []) := upd_same
          walk_at "gf"
          rename_i va hva
          walk_at "nl"
          have e3 : (upd (upd H du (.lst [])) va (.lst [.int (r % 4294967296), .int (r / 7 % 100 - 50), .int 3])) va = some (.lst [.int (r % 4294967296), .int (r / 7 % 100 - 50), .int 3]) := upd_same
          refine (ev.movE hp ht hx hy e3).go fun pp H2 n2 => ?_
          have np := n2.new
          have ns := n2.same
          have na := n2.at_
          have edu2 : H2 du = some (.lst []) := by walk_at "h"
          have npd : pp ≠ du := by walk_at "h"
          refine ⟨du, _, _, rfl, rfl, edu2, by decide, ?_⟩
          refine ⟨upd U pp (.lst ((movO p (r % 4294967296) (r / 7 % 100 - 50) 3).map V.int)), _, rfl, by walk_at "h", by walk_at "h", by walk_at "h", by walk_at "nn", by walk_at "h", by walk_at "h", upd_same, ?_⟩
          exact .cons (dp_ints (SqL.of upd_same)) .nil
    · rintro σ H4 ⟨U4, zs, rfl, v4, s4, o4, m4, k4, udu, edu, dd⟩
      have O4 : Of A.COffers K U4 H4 f tr kd panes on := O.frame v4 (by walk_at "h")
      have hd4 := hd.to v4
      have uf4 := O4.uf
      have ut4 := O4.ut
      obtain ⟨dxf4, ef4⟩ := O4.ob
      have etr4 := O4.l
      walk_at "gf"
      intro o dxo ho hdxo nod
      have uo4 := s4.free ho
      have udx4 := s4.free hdxo
      refine ⟨o, dxo, U4, rfl, upd_same, by walk_at "h", uo4, fun p1 p2 p3 H5 s5 k5 m5 f1 f2 f3 R5 => ⟨rfl, ?_⟩⟩
      have k6 : ∀ b, H4 b ≠ none → H5 b = H4 b := by walk_at "h"
      have O5 : Of A.COffers K U4 H5 f tr kd panes on := O4.frame (Same.refl _) (by walk_at "h")
      obtain ⟨dxh, a1, a2, a3, d1, d2, d3, d4, x1, x2, x3, v, z1, _⟩ := (hd4.to s5).ex
      walk_at "gf"
      refine ⟨h, f, _, rfl, hd4.to s5, f, tr, kd, o, p1, p2, p3, panes, on, r % 4294967296, r / 7 % 100 - 50, 3, U4, rfl, s5, ev, O5, R5, ht.1, ht.2, hx, hy, fun U6 H6 v6 s6 o6 m6 k7 R6 => ?_⟩
      obtain ⟨dx6, wa6, e6⟩ := R6.ob
      obtain ⟨ys, ey, dy⟩ := R6.t
      have edu6 : H6 du = some (.lst zs) := by walk_at "h"
      walk_at "gf"
      refine t_eq (d := tsD (movT panes on (r % 4294967296) (r / 7 % 100 - 50) 3)) (e := tsD (movT panes on (r % 4294967296) (r / 7 % 100 - 50) 3)) (.lst (SqL.of ey) (dy.to s6)) (.lst (SqL.of edu6) (dd.to (v6.trans s6))) (sh_ts _).shaped (sh_ts _).shaped ?_
      rw [(sh_ts _).self]
      have O6 : Of A.COffers K U6 H6 f tr kd panes on := O5.frame v6 (by walk_at "h")
      exact q.go U6 H6 (by walk_at "h") (by walk_at "h") (v4.trans v6) (by walk_at "h") ⟨hd4.to v6, s6, O6⟩
def sp__law_leave (A : Adr) (K : PySem.W.Frag) (C : Addr) (w : World) : Sp := fun vs H Q _ => ∃ (h f tr kd : Addr) (panes : List Int) (on : Bool) (U : Hp), vs = [.ref h, paneV panes, .bl on] ∧ Evs C w K ∧ LawSt A K U H h f tr kd panes on ∧
  ∀ U' H', (∀ b, H' b = none → H b = none) → (∀ b, U b = none → H b ≠ none → U' b = none) → Same U U' → (∀ b, b ≠ f → H b ≠ none → H' b = H b) → LawSt A K U' H' h f tr kd panes false → Q (.bl true) H'
theorem sc__law_leave : FnScope ["holdings", "pane", "on", "due", "reply"] ["holdings", "pane", "on"] (defScope s__law_leave) := ⟨rfl, rfl, rfl, by decide +kernel, rfl, by decide +kernel, by decide +kernel⟩
theorem ok__law_leave (T : Txt K mg A) : FnOk P w K mg base CX0 12 A.f_law_leave A.d_law_leave ["holdings", "pane", "on"] (sp__law_leave A K A.a_EVENTS w) := by
  refine T.F_law_leave.ok sc__law_leave (fun vs H Q E h => ?_) (fun cdv Ar outer st H vs Q E hr h => ?_)
  · obtain ⟨_, _, _, _, _, _, _, rfl, _⟩ := h
    rfl
  · obtain ⟨h, f, tr, kd, panes, on, U, rfl, ev, ⟨hd, sU, O⟩, q⟩ := h
    replace q := Hid.mk q
    obtain ⟨dxf, ef⟩ := O.ob
    have etr := O.l
    have uf := O.uf
    have ut := O.ut
    refine ⟨_, (pss_cons (ps_set (i := 3) sc__law_leave.nd rfl (Or.inl rfl) (pe_lst pa_nil))
      (C8.pss_cut (ps_if (PW.pt (pw_and (pt_cmpR op_notN (pv 1) pe_non (nomark _)) (pw_and1 (pt_val (pv 2)))))
      (pss_one (ps_expr (pe_bm PySem.F.plainAttrs_list PySem.F.slot_list_append PySem.F.type_list_append mt_append (pv 3) (pa_cons (pe_call (ok_event_octets T) (hr.mono (by decide)) rfl T.gevent_octets T.kevent_octets T.bevent_octets .nil passL (pa_cons (pv 1) (pa_cons pe_str (pa_cons pe_str (pa_cons (pe_lst pa_nil) pa_nil))))) pa_nil))))
      pss_nil)
      (pss_cons (ps_set (i := 4) sc__law_leave.nd rfl (Or.inl rfl) (pe_make0 T.MReply (ok_Reply___init__ T) (hr.mono (by decide)) rfl T.gReply T.bReply___init__ .nil pass0))
      (pss_cons (ps_expr (pe_meth (pv 0) T.clHoldings T.mHoldings_leaves (ok_Holdings_leaves T) (hr.mono (by decide)) T.bHoldings_leaves .nil pass0 (pa_cons (pv 4) pa_nil)))
      (pss_one (ps_ret (pe_cmpR (op_eqD hr.units) (pe_fldC T.clReply T.nReply_told (pv 4) rfl) (pv 3) (nomark _)))))))), ?_⟩
    walk_at "gf"
    rename_i du hdu
    have udu := sU.free hdu
    refine ⟨fun σ H4 => ∃ U4 zs, σ = [some (.ref h), some (paneV panes), some (.bl on), some (.ref du), none] ∧ Same U U4 ∧ Same U4 H4 ∧ (∀ b, U b = none → H b ≠ none → U4 b = none) ∧ (∀ b, H4 b = none → H b = none) ∧ (∀ b, H b ≠ none → H4 b = H b) ∧ U4 du = none ∧ H4 du = some (.lst zs) ∧ DpAll K U4 zs ((awyT panes on).map pInts), ?_, ?_⟩
    · cases panes with
      | nil =>
        walk_at "gf"
        exact ⟨U, [], rfl, Same.refl _, by walk_at "h", fun b h _ => h, by walk_at "h", by walk_at "h", by walk_at "h", upd_same, .nil⟩
      | cons p rr =>
        have hp := O.ok.2 p List.mem_cons_self
        cases on with
        | false =>
          walk_at "gf"
          exact ⟨U, [], rfl, Same.refl _, by walk_at "h", fun b h _ => h, by walk_at "h", by walk_at "h", by walk_at "h", upd_same, .nil⟩
        | true =>
          have edu : (upd H du (.lst [])) du = some (.lst []) := upd_same
          walk_at "gf"
          rename_i va hva
          walk_at "nl"
          have e3 : (upd (upd H du (.lst [])) va (.lst [])) va = some (.lst []) := upd_same
          refine (ev.awyE hp e3).go fun pp H2 n2 => ?_
          have np := n2.new
          have ns := n2.same
          have na := n2.at_
          have edu2 : H2 du = some (.lst []) := by walk_at "h"
          have npd : pp ≠ du := by walk_at "h"
          refine ⟨du, _, _, rfl, rfl, edu2, by decide, ?_⟩
          refine ⟨upd U pp (.lst ((awyO p).map V.int)), _, rfl, by walk_at "h", by walk_at "h", by walk_at "h", by walk_at "h", by walk_at "h", by walk_at "h", upd_same, ?_⟩
          exact .cons (dp_ints (SqL.of upd_same)) .nil
    · rintro σ H4 ⟨U4, zs, rfl, v4, s4, o4, m4, k4, udu, edu, dd⟩
      have O4 : Of A.COffers K U4 H4 f tr kd panes on := O.frame v4 (by walk_at "h")
      have hd4 := hd.to v4
      have uf4 := O4.uf
      have ut4 := O4.ut
      obtain ⟨dxf4, ef4⟩ := O4.ob
      have etr4 := O4.l
      walk_at "gf"
      intro o dxo ho hdxo nod
      have uo4 := s4.free ho
      have udx4 := s4.free hdxo
      refine ⟨o, dxo, U4, rfl, upd_same, by walk_at "h", uo4, fun p1 p2 p3 H5 s5 k5 m5 f1 f2 f3 R5 => ⟨rfl, ?_⟩⟩
      have k6 : ∀ b, H4 b ≠ none → H5 b = H4 b := by walk_at "h"
      have O5 : Of A.COffers K U4 H5 f tr kd panes on := O4.frame (Same.refl _) (by walk_at "h")
      obtain ⟨dxh, a1, a2, a3, d1, d2, d3, d4, x1, x2, x3, v, z1, _⟩ := (hd4.to s5).ex
      walk_at "gf"
      refine ⟨h, f, _, rfl, hd4.to s5, f, tr, kd, o, p1, p2, p3, panes, on, U4, rfl, s5, ev, O5, R5, by walk_at "h", by walk_at "h", by walk_at "h", by walk_at "h", by walk_at "h", fun U6 H6 v6 s6 o6 m6 k7 O6 R6 => ?_⟩
      obtain ⟨dx6, wa6, e6⟩ := R6.ob
      obtain ⟨ys, ey, dy⟩ := R6.t
      have edu6 : H6 du = some (.lst zs) := by walk_at "h"
      walk_at "gf"
      refine t_eq (d := tsD (awyT panes on)) (e := tsD (awyT panes on)) (.lst (SqL.of ey) (dy.to s6)) (.lst (SqL.of edu6) (dd.to (v6.trans s6))) (sh_ts _).shaped (sh_ts _).shaped ?_
      rw [(sh_ts _).self]
      exact q.go U6 H6 (by walk_at "h") (by walk_at "h") (v4.trans v6) (by walk_at "h") ⟨hd4.to v6, s6, O6⟩
theorem kN_text : ∀ i : Nat, i < 4 → isText (Str.ofString "k" ++ Str.ofString (toString ((0 : Int) + (i : Int)))) = true ∧ (Str.ofString "k" ++ Str.ofString (toString ((0 : Int) + (i : Int)))).length ≤ 50 := by
  intro i hi
  match i, hi with
  | 0, _ => decide +kernel
  | 1, _ => decide +kernel
  | 2, _ => decide +kernel
  | 3, _ => decide +kernel
def kN (i : Nat) : Str := Str.ofString "k" ++ Str.ofString (toString ((0 : Int) + (i : Int)))
def sp__law_hover (A : Adr) (K : PySem.W.Frag) (C : Addr) (w : World) : Sp := fun vs H Q _ => ∃ (h f tr kd : Addr) (panes : List Int) (on : Bool) (r : Int) (U : Hp), vs = [.ref h, paneV panes, .int r] ∧ 0 ≤ r ∧ Evs C w K ∧ LawSt A K U H h f tr kd panes on ∧
  ∀ U' H', (∀ b, H' b = none → H b = none) → (∀ b, U b = none → H b ≠ none → U' b = none) → Same U U' → (∀ b, b ≠ f → H b ≠ none → H' b = H b) → LawSt A K U' H' h f tr kd panes (!panes.isEmpty) → Q (.bl true) H'
theorem sc__law_hover : FnScope ["holdings", "pane", "row", "surface", "x", "y", "goods", "k", "due", "piece", "reply"] ["holdings", "pane", "row"] (defScope s__law_hover) := ⟨rfl, rfl, rfl, by decide +kernel, rfl, by decide +kernel, by decide +kernel⟩
theorem ok__law_hover (T : Txt K mg A) : FnOk P w K mg base CX0 12 A.f_law_hover A.d_law_hover ["holdings", "pane", "row"] (sp__law_hover A K A.a_EVENTS w) := by
  refine T.F_law_hover.ok sc__law_hover (fun vs H Q E h => ?_) (fun cdv Ar outer st H vs Q E hr h => ?_)
  · obtain ⟨_, _, _, _, _, _, _, _, rfl, _⟩ := h
    rfl
  · obtain ⟨h, f, tr, kd, panes, on, r, U, rfl, hr0, ev, ⟨hd, sU, O⟩, q⟩ := h
    replace q := Hid.mk q
    obtain ⟨dxf, ef⟩ := O.ob
    have etr := O.l
    have uf := O.uf
    have ut := O.ut
    refine ⟨_, (pss_cons (ps_set (i := 3) sc__law_hover.nd rfl (Or.inl rfl) (pe_op op_add (pe_op op_mod (pe_callTy call_int1 (by rfl) T.int (by decide +kernel) (pa_cons (pv 2) pa_nil)) pe_int) pe_int))
      (pss_cons (ps_set (i := 4) sc__law_hover.nd rfl (Or.inl rfl) (pe_op op_sub (pe_op op_mod (pe_callTy call_int1 (by rfl) T.int (by decide +kernel) (pa_cons (pe_op op_fdiv (pv 2) pe_int) pa_nil)) pe_int) pe_int))
      (C8.pss_cut (ps_set (i := 5) sc__law_hover.nd rfl (Or.inl rfl) (pe_op op_sub (pe_op op_mod (pe_callTy call_int1 (by rfl) T.int (by decide +kernel) (pa_cons (pe_op op_fdiv (pv 2) pe_int) pa_nil)) pe_int) pe_int))
      (C8.pss_cut (ps_setLc (i := 6) (own := [("k", 7)]) (g := (gName 7)) (tt := tYes) rfl sc__law_hover.nd rfl rfl (sw_true rfl rfl rfl (by decide +kernel)) (pi_range1 (by rfl) T.range (pa_cons (pe_op op_add (pe_op op_mod (pe_callTy call_int1 (by rfl) T.int (by decide +kernel) (pa_cons (pe_op op_fdiv (pv 2) pe_int) pa_nil)) pe_int) pe_int) pa_nil)) (blkOk_by (own := [("k", 7)]) (N := ["holdings", "pane", "row", "surface", "x", "y", "goods", "k", "due", "piece", "reply"]) (sc := defScope s__law_hover) (by decide +kernel)) (fun _ _ _ _ _ => (pg_name (i := 7) sc__law_hover.nd rfl (Or.inl rfl))) (fun _ _ _ _ _ => pts_nil) (fun _ _ _ _ _ => by exact (pe_tup (pa_cons (pe_op op_add_str pe_str (pe_callTy call_str_int (by rfl) T.str (by decide +kernel) (pa_cons (pv 7) pa_nil))) (pa_cons (pe_lst (pa_cons (pv 7) pa_nil)) pa_nil)))))
      (pss_cons (ps_set (i := 8) sc__law_hover.nd rfl (Or.inl rfl) (pe_lst pa_nil))
      (C8.pss_cut (ps_if (pt_cmpR op_notN (pv 1) pe_non (nomark _))
      (pss_cons (ps_expr (pe_bm PySem.F.plainAttrs_list PySem.F.slot_list_append PySem.F.type_list_append mt_append (pv 8) (pa_cons (pe_call (ok_event_octets T) (hr.mono (by decide)) rfl T.gevent_octets T.kevent_octets T.bevent_octets .nil passL (pa_cons (pv 1) (pa_cons pe_str (pa_cons pe_str (pa_cons (pe_lst (pa_cons (pv 3) (pa_cons (pv 4) (pa_cons (pv 5) pa_nil)))) pa_nil))))) pa_nil)))
      (pss_one (ps_for PassesOwn.never rfl (pi_list (pv 6)) (pg_name (i := 9) sc__law_hover.nd rfl (Or.inl rfl))
      (pss_one (ps_expr (pe_bm PySem.F.plainAttrs_list PySem.F.slot_list_append PySem.F.type_list_append mt_append (pv 8) (pa_cons (pe_call (ok_event_octets T) (hr.mono (by decide)) rfl T.gevent_octets T.kevent_octets T.bevent_octets .nil passL (pa_cons (pv 1) (pa_cons pe_str (pa_cons pe_str (pa_cons (pe_lst (pa_cons (pe_ix (r := rIxT K) ix_tup (pv 9) pe_int (fun _ _ => rfl)) pa_nil)) pa_nil))))) pa_nil)))))))
      pss_nil)
      (pss_cons (ps_set (i := 10) sc__law_hover.nd rfl (Or.inl rfl) (pe_make0 T.MReply (ok_Reply___init__ T) (hr.mono (by decide)) rfl T.gReply T.bReply___init__ .nil pass0))
      (pss_cons (ps_expr (pe_meth (pv 0) T.clHoldings T.mHoldings_hovers (ok_Holdings_hovers T) (hr.mono (by decide)) T.bHoldings_hovers .nil pass0 (pa_cons (pv 3) (pa_cons (pv 4) (pa_cons (pv 5) (pa_cons (pv 6) (pa_cons (pv 10) pa_nil)))))))
      (pss_one (ps_ret (pe_cmpR (op_eqD hr.units) (pe_fldC T.clReply T.nReply_told (pv 10) rfl) (pv 8) (nomark _)))))))))))), ?_⟩
    walk_at "gf"
    refine ⟨fun σ H' => Stop (∃ x y : Int, σ = [some (.ref h), some (paneV panes), some (.int r), some (.int (r % 9 + 2)), some (.int x), some (.int y), none, none, none, none, none] ∧ H' = H ∧ small x ∧ small y), ?_, ?_⟩
    · walk_at "gf"
      exact stop ⟨_, _, rfl, rfl, by unfold small; omega, by unfold small; omega⟩
    rintro σ H' ⟨⟨x, y, rfl, rfl, hx, hy⟩, -⟩
    refine ⟨fun σ H4 => Stop (∃ U4 g n, σ = [some (.ref h), some (paneV panes), some (.int r), some (.int (r % 9 + 2)), some (.int x), some (.int y), some (.ref g), none, none, none, none] ∧ Same U U4 ∧ Same U4 H4 ∧ (∀ b, U b = none → H' b ≠ none → U4 b = none) ∧ (∀ b, H4 b = none → H' b = none) ∧ (∀ b, H' b ≠ none → H4 b = H' b) ∧ n ≤ 4 ∧ Gds K U4 g ((List.range n).map kN)), ?_, ?_⟩
    · walk_at "gf"
      obtain ⟨n, hn⟩ : ∃ n : Nat, r / 90000 % 4 + 1 = n := ⟨(r / 90000 % 4 + 1).toNat, by omega⟩
      refine ⟨by omega, by omega, fun D hD => ?_⟩
      rw [hn, Int.toNat_natCast]
      refine lc_dp (walk_range (lo := 0) (n := n)) (K := K) (V0 := U) (H0 := H') (fun i => some (PyData.tuple [.str (kN i), .list [.int (0 + (i : Int))]])) _ rfl sU hD (by omega) (fun _ _ => trivial) (fun i x H H' y => y.1) ?_ ?_
      · rintro i z U1 H1 hi xx ⟨_, rfl⟩ Qy Qn hy' _
        walk_at "gf"
        have kt := kN_text i (by omega)
        refine ⟨?_, ?_⟩
        · exact Nat.lt_of_le_of_lt (Nat.log2_le_self _) (by omega)
        refine ⟨_, _, rfl, rfl, ?_, ?_⟩
        · have e := str_len_app (Str.ofString "k") (Str.ofString (toString (0 + (i : Int))))
          rw [← e, sizeLine_eq]; exact Nat.le_trans kt.2 (by decide)
        walk_at "gf"
        rename_i pl hpl pt hpt
        have x1 := (Ext.refl xx.vh).trans (Ext.new (o := .lst [.int (0 + (i : Int))]) xx.vh hpl)
        have x2 := x1.trans (Ext.new (o := .tup [.str (Str.ofString "k" ++ Str.ofString (toString (0 + (i : Int)))), .ref pl]) x1.vh hpt)
        have u1 : U1 pl = none := xx.vh.free hpl
        have u2 : U1 pt = none := xx.vh.free (by walk_at "h")
        have npp : pl ≠ pt := by walk_at "h"
        refine hy' _ _ _ _ rfl x2 (.tup (SqT.of upd_same) (.cons (.str _) (.cons (.lst (SqL.of (xs := [.int (0 + (i : Int))]) (by walk_at "h")) (.cons (.int _) .nil)) .nil)))
      · rintro U1 H1 ys xx hDU dl _
        rw [fm_some] at dl
        refine stop ⟨U1, D, n, rfl, xx.vv, xx.vh, ?_, ?_, ?_, by omega, ?_⟩
        · intro b hb hn
          cases e : U1 b with
          | none => rfl
          | some u => exact (xx.nw b (by rw [e]; exact fun z => by cases z)).elim (fun z => absurd hb z) (fun z => absurd z hn)
        · have := xx.hh; walk_at "h"
        · have := xx.hh; walk_at "h"
        · refine ⟨?_, ?_⟩
          · have hl := dpall_len dl
            rw [List.length_map] at hl
            refine ⟨ys, SqL.of hDU, by rw [hl, List.length_map], fun i z hz => ?_⟩
            obtain ⟨d, hd, dz⟩ := dpall_get dl hz
            rw [List.getElem?_map] at hd
            obtain ⟨j, hj, rfl⟩ := Option.map_eq_some_iff.mp hd
            obtain ⟨h1, h2⟩ := List.getElem?_eq_some_iff.mp hj
            rw [List.getElem_range] at h2
            subst h2
            obtain ⟨t, ws, rfl, qt, dw⟩ := dp_tuple dz
            cases dw with
            | cons a b => cases b with
              | cons b c => cases c; rw [dp_str a] at qt; exact ⟨kN i, t, _, rfl, by rw [List.getElem?_map, hj]; rfl, qt⟩
          · rw [List.length_map, List.length_range]
            refine ⟨by omega, fun k hk => ?_⟩
            obtain ⟨i, hi, rfl⟩ := List.mem_map.mp hk
            exact kN_text i (by have := List.mem_range.mp hi; omega)
    · rintro σ H4 ⟨⟨U4, g, n, rfl, v4, s4, o4, m4, k4, hn4, G⟩, -⟩
      have ev_ := ev
      walk_at "gf"
      rename_i du hdu
      have udu := s4.free hdu
      refine ⟨fun σ H5 => Stop (∃ U5 zs v9, σ = [some (.ref h), some (paneV panes), some (.int r), some (.int (r % 9 + 2)), some (.int x), some (.int y), some (.ref g), none, some (.ref du), v9, none] ∧ Same U4 U5 ∧ Same U5 H5 ∧ (∀ b, U4 b = none → H4 b ≠ none → U5 b = none) ∧ (∀ b, H5 b = none → H4 b = none) ∧ (∀ b, H4 b ≠ none → H5 b = H4 b) ∧ H4 du = none ∧ U5 du = none ∧ H5 du = some (.lst zs) ∧ DpAll K U5 zs ((hovT panes (r % 9 + 2) x y ((List.range n).map kN)).map pInts)), ?_, ?_⟩
      · cases panes with
        | nil =>
          walk_at "gf"
          exact stop ⟨U4, [], _, rfl, Same.refl _, by walk_at "h", fun b h _ => h, by walk_at "h", by walk_at "h", hdu, udu, upd_same, .nil⟩
        | cons p rr =>
          have hp := O.ok.2 p List.mem_cons_self
          have edu : (upd H4 du (.lst [])) du = some (.lst []) := upd_same
          walk_at "gf"
          rename_i va hva
          walk_at "nl"
          have e3 : (upd (upd H4 du (.lst [])) va (.lst [.int (r % 9 + 2), .int x, .int y])) va = some (.lst [.int (r % 9 + 2), .int x, .int y]) := upd_same
          refine (ev.hovE hp (by omega) hx hy e3).go fun pp H5 n5 => ?_
          have np := n5.new
          have ns := n5.same
          have na := n5.at_
          have edu2 : H5 du = some (.lst []) := by walk_at "h"
          have npd : pp ≠ du := by walk_at "h"
          refine ⟨du, _, _, rfl, rfl, edu2, by decide, ?_⟩
          have fpp : U4 pp = none := by walk_at "h"
          have dp0 : DpAll K (upd U4 pp (.lst ((hovO p (r % 9 + 2) x y).map V.int))) [.ref pp] [pInts (hovO p (r % 9 + 2) x y)] := .cons (dp_ints (SqL.of upd_same)) .nil
          have v5 : Same U4 (upd U4 pp (.lst ((hovO p (r % 9 + 2) x y).map V.int))) := by walk_at "h"
          have s5 : Same (upd U4 pp (.lst ((hovO p (r % 9 + 2) x y).map V.int))) (upd H5 du (.lst ([] ++ [.ref pp]))) := by walk_at "h"
          have o5 : ∀ b, U4 b = none → H4 b ≠ none → (upd U4 pp (.lst ((hovO p (r % 9 + 2) x y).map V.int))) b = none := by walk_at "h"
          have m5 : ∀ b, (upd H5 du (.lst ([] ++ [.ref pp]))) b = none → H4 b = none := by walk_at "h"
          have k5 : ∀ b, H4 b ≠ none → (upd H5 du (.lst ([] ++ [.ref pp]))) b = H4 b := by walk_at "h"
          have ud5 : (upd U4 pp (.lst ((hovO p (r % 9 + 2) x y).map V.int))) du = none := by walk_at "h"
          have ed5 : (upd H5 du (.lst ([] ++ [.ref pp]))) du = some (.lst [.ref pp]) := upd_same
          generalize upd U4 pp (.lst ((hovO p (r % 9 + 2) x y).map V.int)) = U5 at dp0 v5 s5 o5 ud5
          generalize upd H5 du (.lst ([] ++ [.ref pp])) = H6 at s5 m5 k5 ed5 ⊢
          obtain ⟨zs, g1, g2, g3⟩ := G.ex
          have hg := G.ok.1
          walk_at "gf"
          refine ⟨⟨_, (v5.trans s5).seq g1⟩, for_list (K := K) (a := g) (xs := zs) (fun i σ H' => ∃ (U' : Hp) (ws : List V) (v9 : Option V), σ = [some (.ref h), some (paneV (p :: rr)), some (.int r), some (.int (r % 9 + 2)), some (.int x), some (.int y), some (.ref g), none, some (.ref du), v9, none] ∧ Same U5 U' ∧ Same U' H' ∧ (∀ b, U5 b = none → H6 b ≠ none → U' b = none) ∧ (∀ b, H' b = none → H6 b = none) ∧ (∀ b, b ≠ du → H6 b ≠ none → H' b = H6 b) ∧ H' du = some (.lst ws) ∧ ws.length = i + 1 ∧ DpAll K U' ws (((hovO p (r % 9 + 2) x y) :: (((List.range n).map kN).take i).map (kndO p)).map pInts))
            ⟨U5, [.ref pp], _, rfl, Same.refl _, s5, fun b h _ => h, fun b h => h, fun b _ _ => rfl, ed5, rfl, dp0⟩ (fun i σ H' _ ⟨U', _, _, _, a1, a2, _⟩ => (v5.trans (a1.trans a2)).seq g1) ?_ ?_⟩
          · rintro i z σ H7 hi ⟨U7, ws, v9, rfl, v7, s7, o7, m7, k7, ed7, hw7, d7⟩
            obtain ⟨k, t, v, rfl, hk, qt⟩ := g3 i z hi
            have qt7 := (v5.trans (v7.trans s7)).sqt qt
            have hki := G.ok.2 k (List.mem_of_getElem? hk)
            have hil : i < zs.length := (List.getElem?_eq_some_iff.mp hi).1
            walk_at "gf"
            rename_i vb hvb
            walk_at "nl"
            have e8 : (upd H7 vb (.lst [.str k])) vb = some (.lst [.str k]) := upd_same
            refine (ev.kndE hp hki e8).go fun p8 H8 n8 => ?_
            have n8n := n8.new
            have n8s := n8.same
            have n8a := n8.at_
            have ed8 : H8 du = some (.lst ws) := by walk_at "h"
            have np8 : p8 ≠ du := by walk_at "h"
            have u7d : U7 du = none := by walk_at "h"
            refine ⟨du, _, _, rfl, rfl, ed8, Nat.lt_of_lt_of_le (m := 100000) (by omega) (by decide), ?_⟩
            have v8 : Same U7 (upd U7 p8 (.lst ((kndO p k).map V.int))) := by walk_at "h"
            refine ⟨upd U7 p8 (.lst ((kndO p k).map V.int)), ws ++ [.ref p8], _, rfl, v7.trans v8, by walk_at "h", by walk_at "h", by walk_at "h", by walk_at "h", upd_same, by rw [List.length_append, hw7]; rfl, ?_⟩
            obtain ⟨ha, hb⟩ := List.getElem?_eq_some_iff.mp hk
            rw [List.take_succ_eq_append_getElem ha, List.map_append, ← List.cons_append, List.map_append, hb]
            exact dpall_app (d7.to v8) (.cons (dp_ints (SqL.of upd_same)) .nil)
          · rintro σ H7 ⟨U7, ws, v9, rfl, v7, s7, o7, m7, k7, ed7, hw7, d7⟩
            rw [g2, List.take_length] at d7
            exact stop ⟨U7, ws, _, rfl, v5.trans v7, s7, by walk_at "h", by walk_at "h", by walk_at "h", hdu, by walk_at "h", ed7, d7⟩
      · rintro σ H5 ⟨⟨U5, zs, v9, rfl, v5, s5, o5, m5, k5, hdu, udu, edu, dd⟩, -⟩
        have O5 : Of A.COffers K U5 H5 f tr kd panes on := O.frame (v4.trans v5) (by walk_at "h")
        have hd5 := hd.to (v4.trans v5)
        have G5 := G.to v5
        have uf5 := O5.uf
        have ut5 := O5.ut
        obtain ⟨dxf5, ef5⟩ := O5.ob
        have etr5 := O5.l
        walk_at "gf"
        intro o dxo ho hdxo nod
        have uo5 := s5.free ho
        have udx5 := s5.free hdxo
        refine ⟨o, dxo, U5, rfl, upd_same, by walk_at "h", uo5, fun p1 p2 p3 H6 s6 k6 m6 f1 f2 f3 R6 => ⟨rfl, ?_⟩⟩
        have k6' : ∀ b, H5 b ≠ none → H6 b = H5 b := by walk_at "h"
        have O6 : Of A.COffers K U5 H6 f tr kd panes on := O5.frame (Same.refl _) (by walk_at "h")
        obtain ⟨dxh, a1, a2, a3, d1, d2, d3, d4, x1, x2, x3, v, z1, _⟩ := (hd5.to s6).ex
        walk_at "gf"
        refine ⟨h, f, _, rfl, hd5.to s6, f, tr, kd, g, o, p1, p2, p3, panes, on, r % 9 + 2, x, y, _, U5, rfl, s6, ev, O6, G5, R6, by walk_at "h", by walk_at "h", by walk_at "h", by walk_at "h", by walk_at "h", by omega, by omega, hx, hy, fun U7 H7 v7 s7 o7 m7 k7 O7 R7 => ?_⟩
        obtain ⟨dx7, wa7, e7⟩ := R7.ob
        obtain ⟨ys, ey, dy⟩ := R7.t
        have edu7 : H7 du = some (.lst zs) := by walk_at "h"
        walk_at "gf"
        refine t_eq (d := tsD (hovT panes (r % 9 + 2) x y ((List.range n).map kN))) (e := tsD (hovT panes (r % 9 + 2) x y ((List.range n).map kN))) (.lst (SqL.of ey) (dy.to s7)) (.lst (SqL.of edu7) (dd.to (v7.trans s7))) (sh_ts _).shaped (sh_ts _).shaped ?_
        rw [(sh_ts _).self]
        exact q.go U7 H7 (by walk_at "h") (by walk_at "h") (v4.trans (v5.trans v7)) (by walk_at "h") ⟨hd5.to v7, s7, O7⟩
/-! ### what is made -/
def spI1 (C : Addr) (n1 : Str) : Sp := fun vs H Q _ => ∃ (o dx : Addr), vs = [.ref o] ∧ H o = some (.ins C dx []) ∧ ∀ (p : Addr) (H' : Hp), H p = none → H' o = some (.ins C dx [(n1, .ref p)]) → H' p = some (.dK []) → (∀ b, b ≠ o → H b ≠ none → H' b = H b) → (∀ b, H' b = none → H b = none) → Q .non H'
theorem sc_Sources___init__ : FnScope ["self"] ["self"] (defScope s_Sources___init__) := ⟨rfl, rfl, rfl, by decide +kernel, rfl, by decide +kernel, by decide +kernel⟩
theorem ok_Sources___init__ (T : Txt K mg A) : FnOk P w K mg base CX0 1 A.fSources___init__ A.dSources___init__ ["self"] (spI1 A.CSources "_sources") := by
  refine T.FSources___init__.ok sc_Sources___init__ (fun vs H Q E h => ?_) (fun cdv Ar outer st H vs Q E hr h => ?_)
  · obtain ⟨_, _, rfl, _⟩ := h
    rfl
  · obtain ⟨o, dx, rfl, ho, q⟩ := h
    replace q := Hid.mk q
    refine ⟨_, (pss_one (ps_fldC T.clSources T.nSources__sources (pv 0) pe_dnewK rfl)), ?_⟩
    intro p hp
    have e1 : (upd H p (.dK [])) o = some (.ins A.CSources dx []) := by walk_at "h"
    walk_at "gf"
    intro H1 f1 k1
    exact q.go p H1 hp f1 (by walk_at "h") (by walk_at "h") (by walk_at "h")
theorem sc_Captures___init__ : FnScope ["self"] ["self"] (defScope s_Captures___init__) := ⟨rfl, rfl, rfl, by decide +kernel, rfl, by decide +kernel, by decide +kernel⟩
theorem ok_Captures___init__ (T : Txt K mg A) : FnOk P w K mg base CX0 1 A.fCaptures___init__ A.dCaptures___init__ ["self"] (spI1 A.CCaptures "_pictures") := by
  refine T.FCaptures___init__.ok sc_Captures___init__ (fun vs H Q E h => ?_) (fun cdv Ar outer st H vs Q E hr h => ?_)
  · obtain ⟨_, _, rfl, _⟩ := h
    rfl
  · obtain ⟨o, dx, rfl, ho, q⟩ := h
    replace q := Hid.mk q
    refine ⟨_, (pss_one (ps_fldC T.clCaptures T.nCaptures__pictures (pv 0) pe_dnewK rfl)), ?_⟩
    intro p hp
    have e1 : (upd H p (.dK [])) o = some (.ins A.CCaptures dx []) := by walk_at "h"
    walk_at "gf"
    intro H1 f1 k1
    exact q.go p H1 hp f1 (by walk_at "h") (by walk_at "h") (by walk_at "h")
def sp_Fetches___init__ (C : Addr) : Sp := fun vs H Q _ => ∃ (o dx : Addr), vs = [.ref o] ∧ H o = some (.ins C dx []) ∧ ∀ (p p2 : Addr) (H' : Hp), H p = none → H p2 = none → p ≠ p2 → H' o = some (.ins C dx [("_fetches", .ref p), ("_watches", .ref p2)]) → H' p = some (.dK []) → H' p2 = some (.dK []) → (∀ b, b ≠ o → H b ≠ none → H' b = H b) → (∀ b, H' b = none → H b = none) → Q .non H'
theorem sc_Fetches___init__ : FnScope ["self"] ["self"] (defScope s_Fetches___init__) := ⟨rfl, rfl, rfl, by decide +kernel, rfl, by decide +kernel, by decide +kernel⟩
theorem ok_Fetches___init__ (T : Txt K mg A) : FnOk P w K mg base CX0 1 A.fFetches___init__ A.dFetches___init__ ["self"] (sp_Fetches___init__ A.CFetches) := by
  refine T.FFetches___init__.ok sc_Fetches___init__ (fun vs H Q E h => ?_) (fun cdv Ar outer st H vs Q E hr h => ?_)
  · obtain ⟨_, _, rfl, _⟩ := h
    rfl
  · obtain ⟨o, dx, rfl, ho, q⟩ := h
    replace q := Hid.mk q
    refine ⟨_, (pss_cons (ps_fldC T.clFetches T.nFetches__fetches (pv 0) pe_dnewK rfl)
      (pss_one (ps_fldC T.clFetches T.nFetches__watches (pv 0) pe_dnewK rfl))), ?_⟩
    intro p hp
    have e1 : (upd H p (.dK [])) o = some (.ins A.CFetches dx []) := by walk_at "h"
    walk_at "gf"
    intro H1 f1 k1 p2 hp2
    have e2 : (upd H1 p2 (.dK [])) o = some (.ins A.CFetches dx [("_fetches", .ref p)]) := by walk_at "h"
    walk_at "gf"
    intro H2 f2 k2
    have np : p ≠ p2 := by walk_at "h"
    exact q.go p p2 H2 hp (by walk_at "h") np f2 (by walk_at "h") (by walk_at "h") (by walk_at "h") (by walk_at "h")
def sp_Offers___init__ (C : Addr) : Sp := fun vs H Q _ => ∃ (o dx : Addr), vs = [.ref o] ∧ H o = some (.ins C dx []) ∧ ∀ (p p2 : Addr) (H' : Hp), H p = none → H p2 = none → p ≠ p2 → H' o = some (.ins C dx [("_transfers", .ref p), ("_kept", .ref p2), ("_is_hovered", .bl false)]) → H' p = some (.lst []) → H' p2 = some (.dK []) → (∀ b, b ≠ o → H b ≠ none → H' b = H b) → (∀ b, H' b = none → H b = none) → Q .non H'
theorem sc_Offers___init__ : FnScope ["self"] ["self"] (defScope s_Offers___init__) := ⟨rfl, rfl, rfl, by decide +kernel, rfl, by decide +kernel, by decide +kernel⟩
theorem ok_Offers___init__ (T : Txt K mg A) : FnOk P w K mg base CX0 1 A.fOffers___init__ A.dOffers___init__ ["self"] (sp_Offers___init__ A.COffers) := by
  refine T.FOffers___init__.ok sc_Offers___init__ (fun vs H Q E h => ?_) (fun cdv Ar outer st H vs Q E hr h => ?_)
  · obtain ⟨_, _, rfl, _⟩ := h
    rfl
  · obtain ⟨o, dx, rfl, ho, q⟩ := h
    replace q := Hid.mk q
    refine ⟨_, (pss_cons (ps_fldC T.clOffers T.nOffers__transfers (pv 0) (pe_lst pa_nil) rfl)
      (pss_cons (ps_fldC T.clOffers T.nOffers__kept (pv 0) pe_dnewK rfl)
      (pss_one (ps_fldC T.clOffers T.nOffers__is_hovered (pv 0) pe_bl rfl)))), ?_⟩
    refine ⟨len_line (by show 0 ≤ 100000; decide), fun p hp => ?_⟩
    have e1 : (upd H p (.lst [])) o = some (.ins A.COffers dx []) := by walk_at "h"
    walk_at "gf"
    intro H1 f1 k1 p2 hp2
    have e2 : (upd H1 p2 (.dK [])) o = some (.ins A.COffers dx [("_transfers", .ref p)]) := by walk_at "h"
    walk_at "gf"
    intro H2 f2 k2
    walk_at "gf"
    intro H3 f3 k3
    have np : p ≠ p2 := by walk_at "h"
    exact q.go p p2 H3 hp (by walk_at "h") np f3 (by walk_at "h") (by walk_at "h") (by walk_at "h") (by walk_at "h")
def sp_Holdings___init__ (A : Adr) : Sp := fun vs H Q _ => ∃ (o dx : Addr), vs = [.ref o] ∧ H o = some (.ins A.CHoldings dx []) ∧ ∀ (f tr kd dxf : Addr) (H' : Hp), H f = none → H tr = none → H kd = none → Hd A H' o f → H' f = some (.ins A.COffers dxf [("_transfers", .ref tr), ("_kept", .ref kd), ("_is_hovered", .bl false)]) → H' tr = some (.lst []) → H' kd = some (.dK []) → (∀ b, b ≠ o → H b ≠ none → H' b = H b) → (∀ b, H' b = none → H b = none) → Q .non H'
theorem sc_Holdings___init__ : FnScope ["self"] ["self"] (defScope s_Holdings___init__) := ⟨rfl, rfl, rfl, by decide +kernel, rfl, by decide +kernel, by decide +kernel⟩
theorem ok_Holdings___init__ (T : Txt K mg A) : FnOk P w K mg base CX0 3 A.fHoldings___init__ A.dHoldings___init__ ["self"] (sp_Holdings___init__ A) := by
  refine T.FHoldings___init__.ok sc_Holdings___init__ (fun vs H Q E h => ?_) (fun cdv Ar outer st H vs Q E hr h => ?_)
  · obtain ⟨_, _, rfl, _⟩ := h
    rfl
  · obtain ⟨o, dx, rfl, ho, q⟩ := h
    replace q := Hid.mk q
    refine ⟨_, (pss_cons (ps_fldC T.clHoldings T.nHoldings__sources (pv 0) (pe_make0 T.MSources (ok_Sources___init__ T) (hr.mono (by decide)) rfl T.gSources T.bSources___init__ .nil pass0) rfl)
      (pss_cons (ps_fldC T.clHoldings T.nHoldings__offers (pv 0) (pe_make0 T.MOffers (ok_Offers___init__ T) (hr.mono (by decide)) rfl T.gOffers T.bOffers___init__ .nil pass0) rfl)
      (pss_cons (ps_fldC T.clHoldings T.nHoldings__captures (pv 0) (pe_make0 T.MCaptures (ok_Captures___init__ T) (hr.mono (by decide)) rfl T.gCaptures T.bCaptures___init__ .nil pass0) rfl)
      (pss_cons (ps_fldC T.clHoldings T.nHoldings__fetches (pv 0) (pe_make0 T.MFetches (ok_Fetches___init__ T) (hr.mono (by decide)) rfl T.gFetches T.bFetches___init__ .nil pass0) rfl)
      (pss_one (ps_fldC T.clHoldings T.nHoldings__sent_names (pv 0) (pe_lst pa_nil) rfl)))))), ?_⟩
    intro a1 x1 ha1 hx1 n1
    refine ⟨a1, x1, rfl, upd_same, fun d1 H1 g1 f1 e1 k1 m1 => ⟨rfl, ?_⟩⟩
    have K1 : ∀ b, H b ≠ none → H1 b = H b := by walk_at "h"
    have M1 : ∀ b, H1 b = none → H b = none := by walk_at "h"
    have o1 : H1 o = some (.ins A.CHoldings dx []) := by walk_at "h"
    clear k1 m1 g1 hx1 n1
    walk_at "gf"
    intro H2 f2 k2
    have K2 : ∀ b, b ≠ o → H b ≠ none → H2 b = H b := by walk_at "h"
    have M2 : ∀ b, H2 b = none → H b = none := by walk_at "h"
    have A1 : H2 a1 = some (.ins A.CSources x1 [("_sources", .ref d1)]) ∧ H2 d1 = some (.dK []) := by walk_at "h"
    clear k2 K1 M1 o1 f1 e1
    intro f xf hf hxf nf
    refine ⟨f, xf, rfl, upd_same, fun tr kd H3 g3 g4 n3 f3 e3 e4 k3 m3 => ⟨rfl, ?_⟩⟩
    have K3 : ∀ b, H2 b ≠ none → H3 b = H2 b := by walk_at "h"
    have M3 : ∀ b, H3 b = none → H2 b = none := by walk_at "h"
    have o3 : H3 o = some (.ins A.CHoldings dx [("_sources", .ref a1)]) := by walk_at "h"
    have z1 : H2 tr = none := by walk_at "h"
    have z2 : H2 kd = none := by walk_at "h"
    clear k3 m3 g3 g4 hxf nf
    walk_at "gf"
    intro H4 f4 k4
    have K4 : ∀ b, b ≠ o → H2 b ≠ none → H4 b = H2 b := by walk_at "h"
    have M4 : ∀ b, H4 b = none → H2 b = none := by walk_at "h"
    have A4 : H4 f = some (.ins A.COffers xf [("_transfers", .ref tr), ("_kept", .ref kd), ("_is_hovered", .bl false)]) ∧ H4 tr = some (.lst []) ∧ H4 kd = some (.dK []) := by walk_at "h"
    clear k4 K3 M3 o3 f3 e3 e4
    intro a2 x2 ha2 hx2 n2
    refine ⟨a2, x2, rfl, upd_same, fun d2 H5 g5 f5 e5 k5 m5 => ⟨rfl, ?_⟩⟩
    have K5 : ∀ b, H4 b ≠ none → H5 b = H4 b := by walk_at "h"
    have M5 : ∀ b, H5 b = none → H4 b = none := by walk_at "h"
    have o5 : H5 o = some (.ins A.CHoldings dx [("_sources", .ref a1), ("_offers", .ref f)]) := by walk_at "h"
    clear k5 m5 g5 hx2 n2
    walk_at "gf"
    intro H6 f6 k6
    have K6 : ∀ b, b ≠ o → H4 b ≠ none → H6 b = H4 b := by walk_at "h"
    have M6 : ∀ b, H6 b = none → H4 b = none := by walk_at "h"
    have A6 : H6 a2 = some (.ins A.CCaptures x2 [("_pictures", .ref d2)]) ∧ H6 d2 = some (.dK []) := by walk_at "h"
    clear k6 K5 M5 o5 f5 e5
    intro a3 x3 ha3 hx3 n3'
    refine ⟨a3, x3, rfl, upd_same, fun d3 d4 H7 g7 g8 n7 f7 e7 e8 k7 m7 => ⟨rfl, ?_⟩⟩
    have K7 : ∀ b, H6 b ≠ none → H7 b = H6 b := by walk_at "h"
    have M7 : ∀ b, H7 b = none → H6 b = none := by walk_at "h"
    have o7 : H7 o = some (.ins A.CHoldings dx [("_sources", .ref a1), ("_offers", .ref f), ("_captures", .ref a2)]) := by walk_at "h"
    clear k7 m7 g7 g8 hx3 n3'
    walk_at "gf"
    intro H8 f8 k8
    have K8 : ∀ b, b ≠ o → H6 b ≠ none → H8 b = H6 b := by walk_at "h"
    have M8 : ∀ b, H8 b = none → H6 b = none := by walk_at "h"
    have A8 : H8 a3 = some (.ins A.CFetches x3 [("_fetches", .ref d3), ("_watches", .ref d4)]) ∧ H8 d3 = some (.dK []) ∧ H8 d4 = some (.dK []) := by walk_at "h"
    clear k8 K7 M7 o7 f7 e7 e8
    refine ⟨len_line (by show 0 ≤ 100000; decide), fun p5 hp5 => ?_⟩
    have o8 : (upd H8 p5 (.lst [])) o = some (.ins A.CHoldings dx [("_sources", .ref a1), ("_offers", .ref f), ("_captures", .ref a2), ("_fetches", .ref a3)]) := by walk_at "h"
    walk_at "gf"
    intro H9 f9 k9
    have K9 : ∀ b, b ≠ o → H8 b ≠ none → H9 b = H8 b := by walk_at "h"
    have M9 : ∀ b, H9 b = none → H8 b = none := by walk_at "h"
    clear k9 o8
    have oo : ∀ b, H8 b ≠ none → b = o ∨ H9 b = H8 b := by walk_at "h"
    obtain ⟨A11, A12⟩ := A1
    obtain ⟨A41, A42, A43⟩ := A4
    obtain ⟨A61, A62⟩ := A6
    obtain ⟨A81, A82, A83⟩ := A8
    have y1 : a1 ≠ o := by walk_at "h"
    have y2 : d1 ≠ o := by walk_at "h"
    have y3 : a2 ≠ o := by walk_at "h"
    have y4 : d2 ≠ o := by walk_at "h"
    have y5 : a3 ≠ o := by walk_at "h"
    have y6 : d3 ≠ o := by walk_at "h"
    have y7 : d4 ≠ o := by walk_at "h"
    have y8 : f ≠ o := by walk_at "h"
    have y9 : tr ≠ o := by walk_at "h"
    have y10 : kd ≠ o := by walk_at "h"
    exact q.go f tr kd xf H9 (by walk_at "h") (by walk_at "h") (by walk_at "h") ⟨dx, a1, a2, a3, d1, d2, d3, d4, x1, x2, x3, .ref p5, f9, by walk_at "h", by walk_at "h", by walk_at "h", by walk_at "h", by walk_at "h", by walk_at "h", by walk_at "h"⟩ (by walk_at "h") (by walk_at "h") (by walk_at "h") (by walk_at "h") (by walk_at "h")
/-! ### the law -/
theorem useR {R B C G : Prop} (h : (¬ C → R) → (C → B) → G) (r : ¬ C → R) (b : C → B) : G := h r b
theorem fm_fmap' {α β : Type} (f : α → Option β) (xs : List α) (n : Nat) (h : n = xs.length) (g : Nat → Option β) (hg : ∀ i x, xs[i]? = some x → g i = f x) : fm g n = xs.filterMap f := by
  subst h
  have : ∀ (m : Nat), m ≤ xs.length → fm g m = (xs.take m).filterMap f := by
    intro m
    induction m with
    | zero => intro _; rfl
    | succ m ih =>
      intro hm
      rw [fm_succ, ih (by omega), hg m _ (List.getElem?_eq_getElem (by omega)), List.take_succ_eq_append_getElem (by omega), List.filterMap_append]
      congr 1
  rw [this _ (Nat.le_refl _), List.take_length]
theorem fm_ne (g : Int) (ps : List Int) : (ps.filterMap fun p => if p ≠ g then some (PyData.int p) else none) = (ps.filter fun p => decide (p ≠ g)).map PyData.int := by
  induction ps with
  | nil => rfl
  | cons r t ih =>
    by_cases c : r ≠ g
    · rw [List.filterMap_cons_some (by rw [if_pos c]), List.filter_cons_of_pos (by exact decide_eq_true c), List.map_cons, ih]
    · rw [List.filterMap_cons_none (by rw [if_neg c]), List.filter_cons_of_neg (by simpa using c), ih]
structure LwI (A : Adr) (K : PySem.W.Frag) (H : Hp) (a h f tr kd lp : Addr) (ns : List Int) (U : Hp) (panes : List Int) (on : Bool) (i : Nat) : Prop where
  st : LawSt A K U H h f tr kd panes on
  el : H lp = some (.lst (panes.map V.int))
  ul : U lp = none
  nf : lp ≠ f
  nt : lp ≠ tr
  sc : SqL K U a (ns.map V.int)
  nd : panes.Nodup
  lt : ∀ p ∈ panes, 30 ≤ p ∧ p < 30 + i
  len : panes.length ≤ i
def paneD : List Int → PyData
  | [] => .none
  | p :: _ => .int p
theorem dp_pane {K : PySem.W.Frag} {H : Hp} (ps : List Int) : Dp K H (paneV ps) (paneD ps) := by
  cases ps with
  | nil => exact .non
  | cons p r => exact .int p
theorem sh_pane (ps : List Int) : Sh 0 (paneD ps) := by
  cases ps with
  | nil => exact sh_none
  | cons p r => exact sh_int p
theorem paneV_get {panes : List Int} (h : 0 < panes.length) : (panes.map V.int)[0]? = some (paneV panes) := by
  cases panes with
  | nil => cases h
  | cons p r => rfl
theorem sc_law : FnScope ["script", "holdings", "panes", "on", "k", "row", "deed", "pane", "good", "gone", "one"] ["script"] (defScope s_law) := ⟨rfl, rfl, rfl, by decide +kernel, rfl, by decide +kernel, by decide +kernel⟩
theorem ok_lawE (T : Txt K mg A) (ev : Evs A.a_EVENTS w K) : FnOk P w K mg base CX0 13 A.flaw A.dlaw ["script"] (sp_law K) := by
  refine T.Flaw.ok sc_law (fun vs H Q E h => ?_) (fun cdv Ar outer s H vs Q E hr h => ?_)
  · obtain ⟨a, ns, rfl, _⟩ := h
    rfl
  · obtain ⟨a, ns, rfl, hS, hlen, q⟩ := h
    replace q := Hid.mk q
    refine ⟨_, (pss_cons (ps_set (i := 1) sc_law.nd rfl (Or.inl rfl) (pe_make0 T.MHoldings (ok_Holdings___init__ T) (hr.mono (by decide)) rfl T.gHoldings T.bHoldings___init__ .nil pass0))
      (pss_cons (ps_set (i := 2) sc_law.nd rfl (Or.inl rfl) (pe_lst pa_nil))
      (pss_cons (ps_set (i := 3) sc_law.nd rfl (Or.inl rfl) pe_bl)
      (pss_cons (ps_for PassesOwn.never rfl (pi_range1 (by rfl) T.range (pa_cons (pe_op op_add (pe_callB (call_min2 rfl) (by rfl) T.min (by decide +kernel) (pa_cons pe_int (pa_cons (pe_callB call_len_seq (by rfl) T.len PySem.boot_len (pa_cons (pv 0) pa_nil)) pa_nil))) pe_int) pa_nil)) (pg_name (i := 4) sc_law.nd rfl (Or.inl rfl))
      (pss_cons (ps_set (i := 5) sc_law.nd rfl (Or.inl rfl) (pe_call (ok__law_row T) (hr.mono (by decide)) rfl T.g_law_row T.k_law_row T.b_law_row .nil pass0 (pa_cons (pv 0) (pa_cons (pv 4) pa_nil))))
      (pss_cons (ps_set (i := 6) sc_law.nd rfl (Or.inl rfl) (pe_op op_mod (pe_callTy call_int1 (by rfl) T.int (by decide +kernel) (pa_cons (pv 5) pa_nil)) pe_int))
      (pss_cons (ps_set (i := 7) sc_law.nd rfl (Or.inl rfl) pe_non)
      (C8.pss_cut (ps_if (pt_cmpR op_gt (pe_callB call_len_seq (by rfl) T.len PySem.boot_len (pa_cons (pv 2) pa_nil)) pe_int (nomark _))
      (pss_one (ps_set (i := 7) sc_law.nd rfl (Or.inl rfl) (pe_ix (r := rIxL K) ix_list (pv 2) pe_int (fun _ _ => rfl))))
      pss_nil)
      (pss_cons (ps_if (pt_cmpR (op_neD hr.units) (pe_meth0 (pv 1) T.clHoldings T.mHoldings_pane (ok_Holdings_pane T) (hr.mono (by decide)) T.bHoldings_pane .nil pass0) (pv 7) (nomark _))
      (pss_one (ps_ret pe_bl))
      pss_nil)
      (pss_cons (ps_set (i := 8) sc_law.nd rfl (Or.inl rfl) pe_bl)
      (C8.pss_cut (ps_if (pt_cmpR op_eq (pv 6) pe_int (nomark _))
      (pss_cons (ps_expr (pe_bm PySem.F.plainAttrs_list PySem.F.slot_list_append PySem.F.type_list_append mt_append (pv 2) (pa_cons (pe_op op_add pe_int (pv 4)) pa_nil)))
      (pss_one (ps_expr (pe_meth (pv 1) T.clHoldings T.mHoldings_bound (ok_Holdings_bound T) (hr.mono (by decide)) T.bHoldings_bound .nil pass0 (pa_cons (pe_op op_add pe_int (pv 4)) pa_nil)))))
      (pss_one (ps_if (PW.pt (pw_and (pt_cmpR op_eq (pv 6) pe_int (nomark _)) (pw_and1 (pt_cmpR op_gt (pe_callB call_len_seq (by rfl) T.len PySem.boot_len (pa_cons (pv 2) pa_nil)) pe_int (nomark _)))))
      (pss_cons (ps_set (i := 9) sc_law.nd rfl (Or.inr rfl) (pe_ix (r := rIxL K) ix_list (pv 2) (pe_op op_mod (pe_callTy call_int1 (by rfl) T.int (by decide +kernel) (pa_cons (pe_op op_fdiv (pv 5) pe_int) pa_nil)) (pe_callB call_len_seq (by rfl) T.len PySem.boot_len (pa_cons (pv 2) pa_nil))) (fun _ _ => rfl)))
      (pss_cons (ps_setLc (i := 2) (own := [("one", 10)]) (g := (gName 10)) rfl sc_law.nd rfl rfl (sw_true rfl rfl rfl (by decide +kernel)) (pi_list (pv 2)) (blkOk_by (own := [("one", 10)]) (N := ["script", "holdings", "panes", "on", "k", "row", "deed", "pane", "good", "gone", "one"]) (sc := defScope s_law) (by decide +kernel)) (fun _ _ _ _ _ => (pg_name (i := 10) sc_law.nd rfl (Or.inl rfl))) (fun _ _ _ _ _ => (pts_one (pt_cmpR op_ne (pv 10) (pv 9) (nomark _)))) (fun _ _ _ _ _ => by exact (pv 10)))
      (pss_one (ps_expr (pe_meth (pv 1) T.clHoldings T.mHoldings_ended (ok_Holdings_ended T) (hr.mono (by decide)) T.bHoldings_ended .nil pass0 (pa_cons (pv 9) pa_nil))))))
      (pss_one (ps_if (PW.pt (pw_and (PW.pt (pw_or (pt_cmpR op_eq (pv 6) pe_int (nomark _)) (pw_or1 (pt_cmpR op_eq (pv 6) pe_int (nomark _))))) (pw_and1 (pt_cmpR op_is_bl (pv 3) pe_bl (nomark _)))))
      (pss_cons (ps_set (i := 8) sc_law.nd rfl (Or.inl rfl) (pe_call (ok__law_hover T) (hr.mono (by decide)) rfl T.g_law_hover T.k_law_hover T.b_law_hover .nil pass0 (pa_cons (pv 1) (pa_cons (pv 7) (pa_cons (pe_op op_fdiv (pv 5) pe_int) pa_nil)))))
      (pss_one (ps_set (i := 3) sc_law.nd rfl (Or.inl rfl) (pe_cmpR op_notN (pv 7) pe_non (nomark _)))))
      (pss_one (ps_if (pt_cmpR op_eq (pv 6) pe_int (nomark _))
      (pss_cons (ps_set (i := 8) sc_law.nd rfl (Or.inl rfl) (pe_call (ok__law_leave T) (hr.mono (by decide)) rfl T.g_law_leave T.k_law_leave T.b_law_leave .nil pass0 (pa_cons (pv 1) (pa_cons (pv 7) (pa_cons (pv 3) pa_nil)))))
      (pss_one (ps_set (i := 3) sc_law.nd rfl (Or.inl rfl) pe_bl)))
      (pss_one (ps_if (pt_cmpR op_eq (pv 6) pe_int (nomark _))
      (pss_cons (ps_expr (pe_meth0 (pv 1) T.clHoldings T.mHoldings_dropped (ok_Holdings_dropped T) (hr.mono (by decide)) T.bHoldings_dropped .nil pass0))
      (pss_one (ps_set (i := 3) sc_law.nd rfl (Or.inl rfl) pe_bl)))
      (pss_one (ps_set (i := 8) sc_law.nd rfl (Or.inl rfl) (pe_call (ok__law_move T) (hr.mono (by decide)) rfl T.g_law_move T.k_law_move T.b_law_move .nil pass0 (pa_cons (pv 1) (pa_cons (pv 7) (pa_cons (pv 3) (pa_cons (pe_op op_fdiv (pv 5) pe_int) pa_nil))))))))))))))))
      (pss_one (ps_if (pt_not (pt_val (pv 8)))
      (pss_one (ps_ret pe_bl))
      pss_nil))))))))))
      (pss_one (ps_ret pe_bl)))))), ?_⟩
    walk_at "go"
    intro h dxh hh hdh ndh
    refine ⟨h, dxh, rfl, upd_same, fun f tr kd dxf H1 f1 f2 f3 hd e1 e2 e3 k1 m1 => ⟨rfl, ?_⟩⟩
    have s1 : Same H H1 := by walk_at "h"
    have U1s : Same (hide (hide H1 f) tr) H1 := fun b u e => by
      unfold hide at e; split at e
      · cases e
      · split at e
        · cases e
        · exact e
    have hs1 : SqL K (hide (hide H1 f) tr) a (ns.map V.int) := by
      have : Same H (hide (hide H1 f) tr) := fun b u e => by
        have e' := s1 b u e
        unfold hide
        rw [if_neg (fun z => by rw [z] at e; walk_at "h"), if_neg (fun z => by rw [z] at e; walk_at "h")]
        exact e'
      exact this.seq hS
    have hdU : Hd A (hide (hide H1 f) tr) h f := by
      obtain ⟨dx, a1, a2, a3, d1, d2, d3, d4, x1, x2, x3, v, z1, z2, z3, z4, z5, z6, z7, z8⟩ := hd.ex
      exact ⟨dx, a1, a2, a3, d1, d2, d3, d4, x1, x2, x3, v, by grind [hide], by grind [hide], by grind [hide], by grind [hide], by grind [hide], by grind [hide], by grind [hide], by grind [hide]⟩
    have O1 : Of A.COffers K (hide (hide H1 f) tr) H1 f tr kd [] false := ⟨⟨dxf, e1⟩, e2, by grind [hide], by grind [hide], by grind [hide], by decide, fun p hp => by cases hp⟩
    generalize hide (hide H1 f) tr = U1 at U1s hs1 hdU O1
    clear k1 m1 f1 f2 f3 hd hh hdh ndh
    walk_at "gf"
    rename_i lp hlp
    rw [List.length_map]
    refine ⟨by split <;> omega, by split <;> omega, ?_⟩
    have hn : ((if (40 : Int) < (ns.length : Int) then (40 : Int) else (ns.length : Int)) + 1).toNat ≤ 41 := by split <;> omega
    generalize ((if (40 : Int) < (ns.length : Int) then (40 : Int) else (ns.length : Int)) + 1).toNat = nn at hn ⊢
    have ulp : U1 lp = none := U1s.free hlp
    refine for_range (lo := 0) (fun i σ H' => ∃ (U : Hp) (lp : Addr) (panes : List Int) (on : Bool) (v4 v5 v6 v7 v8 v9 v10 : Option V), σ = [some (.ref a), some (.ref h), some (.ref lp), some (.bl on), v4, v5, v6, v7, v8, v9, v10] ∧ LwI A K H' a h f tr kd lp ns U panes on i)
      ⟨U1, lp, [], false, none, none, none, none, none, none, none, rfl, ⟨hdU, by walk_at "h", O1.frame (Same.refl _) (by walk_at "h")⟩, upd_same, ulp, by walk_at "h", by walk_at "h", hs1, List.nodup_nil, fun p hp => (by cases hp), Nat.le_refl _⟩ ?_ ?_
    · rintro i σ H2 hi ⟨U, lp, panes, on, v4, v5, v6, v7, v8, v9, v10, rfl, L⟩
      obtain ⟨hdL, sU, O⟩ := L.st
      have elp := L.el
      have ulp := L.ul
      have uf := O.uf
      have ut := O.ut
      obtain ⟨dxf, ef⟩ := O.ob
      have etr := O.l
      have hnf := L.nf
      have hnt := L.nt
      walk_at "gf"
      refine ⟨a, ns, i, by rw [Int.zero_add]; rfl, (sU.seq L.sc), ?_⟩
      have hr0 := lawRow_nn ns i
      generalize lawRow ns i = row at hr0 ⊢
      walk_at "gf"
      refine ⟨fun σ H' => Stop (σ = [some (.ref a), some (.ref h), some (.ref lp), some (.bl on), some (.int (0 + (i : Int))), some (.int row), some (.int (row % 7)), some (paneV panes), v8, v9, v10] ∧ H' = H2), ?_, ?_⟩
      · walk_at "gf"
        rw [List.length_map]
        refine iteP (fun hc => ?_) (fun hc => ?_)
        · walk_at "gf"
          refine ⟨lp, _, _, _, rfl, rfl, SqL.of elp, atI_nat (j := 0) (paneV_get (by omega)), ?_⟩
          walk_at "gf"
          exact stop ⟨rfl, rfl⟩
        · have : panes = [] := by cases panes with
            | nil => rfl
            | cons p r => exact absurd (show (0 : Int) < ((p :: r).length : Int) by rw [List.length_cons]; omega) hc
          subst this
          walk_at "gf"
          exact stop ⟨rfl, rfl⟩
      · rintro σ H3 ⟨⟨rfl, rfl⟩, -⟩
        obtain ⟨dxh, a1, a2, a3, d1, d2, d3, d4, x1, x2, x3, v, z1, _⟩ := (hdL.to sU).ex
        walk_at "gf"
        refine ⟨h, f, _, rfl, hdL.to sU, f, tr, kd, panes, on, U, rfl, O, ?_⟩
        walk_at "gf"
        refine t_ne (d := paneD panes) (e := paneD panes) (dp_pane _) (dp_pane _) (sh_pane _).shaped (sh_pane _).shaped ⟨_, rfl, ne_self (sh_pane _).shaped rfl ?_⟩
        walk_at "gf"
        refine ⟨fun σ H' => Stop (∃ (U : Hp) (lp : Addr) (panes' : List Int) (on' : Bool) (v9 v10 : Option V), σ = [some (.ref a), some (.ref h), some (.ref lp), some (.bl on'), some (.int (0 + (i : Int))), some (.int row), some (.int (row % 7)), some (paneV panes), some (.bl true), v9, v10] ∧ LwI A K H' a h f tr kd lp ns U panes' on' (i + 1)), ?_, ?_⟩
        · have hlen := L.len
          walk_at "gf"
          refine iteEq (fun c0 => ?_) (fun c0 => ?_)
          · walk_at "gf"
            have hpl := O.ok.1
            refine ⟨lp, _, _, rfl, rfl, elp, Nat.lt_of_lt_of_le (m := 100000) (by rw [List.length_map]; omega) (by decide), ?_⟩
            generalize hG : upd H3 lp (.lst (panes.map V.int ++ [.int (30 + (0 + (i : Int)))])) = H5
            obtain ⟨e5, k5⟩ := upd_facts hG
            have s5 : Same U H5 := by walk_at "h"
            obtain ⟨dxh, a1, a2, a3, d1, d2, d3, d4, x1, x2, x3, v, z1, _⟩ := (hdL.to s5).ex
            have O5 : Of A.COffers K U H5 f tr kd panes on := O.frame (Same.refl _) (by walk_at "h")
            walk_at "gf"
            refine ⟨h, f, _, rfl, hdL.to s5, f, tr, kd, panes, on, 30 + (0 + (i : Int)), U, rfl, O5, fun H6 e6 k6 => ?_⟩
            have hnew : ∀ p ∈ panes, 30 ≤ p ∧ p < 30 + (i : Int) := L.lt
            obtain ⟨dxf5, ef5⟩ := O5.ob
            refine stop ⟨U, lp, panes ++ [30 + (0 + (i : Int))], on, _, _, rfl, ⟨hdL, by walk_at "h", ⟨⟨dxf5, by walk_at "h"⟩, e6, O.k, uf, ut, ?_⟩⟩, ?_, ulp, hnf, hnt, L.sc, ?_, ?_, by rw [List.length_append]; show panes.length + 1 ≤ _; omega⟩
            · refine ⟨by rw [List.length_append]; show panes.length + 1 ≤ _; omega, fun p hp => ?_⟩
              rcases List.mem_append.mp hp with hp | hp
              · exact O.ok.2 p hp
              · rw [List.mem_singleton] at hp; omega
            · rw [List.map_append]; walk_at "h"
            · rw [List.nodup_append]
              refine ⟨L.nd, List.nodup_cons.mpr ⟨by simp, List.nodup_nil⟩, ?_⟩
              intro x hx y hy
              rw [List.mem_singleton] at hy
              have := hnew x hx
              omega
            · intro p hp
              rcases List.mem_append.mp hp with hp | hp
              · have := hnew p hp; omega
              · rw [List.mem_singleton] at hp; omega
          · walk_at "gf"
            have rest_ : ∀ (U' H' : Hp) (on' : Bool), (∀ b, U b = none → H3 b ≠ none → U' b = none) → Same U U' → (∀ b, b ≠ f → H3 b ≠ none → H' b = H3 b) → LawSt A K U' H' h f tr kd panes on' → LwI A K H' a h f tr kd lp ns U' panes on' (i + 1) := fun U' H' on' oo vv kk st' =>
              ⟨st', by walk_at "h", by walk_at "h", hnf, hnt, vv.seq L.sc, L.nd, fun p hp => by have := L.lt p hp; omega, by omega⟩
            apply useR (C := row % 7 = 1 ∧ 0 < panes.length)
            · intro r b
              refine iteEq (fun c1 => ?_) (fun c1 => r fun z => c1 z.1)
              walk_at "gf"
              rw [List.length_map]
              refine iteP (fun c2 => b ⟨c1, by omega⟩) (fun c2 => r fun z => c2 (by have := z.2; omega))
            · intro hc
              walk_at "gf"
              apply useR (C := (row % 7 = 2 ∨ row % 7 = 3) ∧ on = false)
              · intro r b
                refine iteEq (fun c1 => ?_) (fun c1 => ?_)
                · walk_at "gf"
                  exact if_b (fun hb => b ⟨.inl c1, by cases on <;> simp_all⟩) (fun hb => r fun z => by cases on <;> simp_all)
                · walk_at "gf"
                  refine iteEq (fun c2 => ?_) (fun c2 => ?_)
                  · walk_at "gf"
                    exact if_b (fun hb => b ⟨.inr c2, by cases on <;> simp_all⟩) (fun hb => r fun z => by cases on <;> simp_all)
                  · exact if_f rfl (r fun z => by omega)
              · intro hc2
                walk_at "gf"
                refine iteEq (fun c4 => ?_) (fun c4 => ?_)
                · walk_at "gf"
                  refine ⟨h, f, tr, kd, panes, on, U, rfl, ev, ⟨hdL, sU, O⟩, fun U' H' mm oo vv kk st' => ?_⟩
                  walk_at "gf"
                  exact stop ⟨U', lp, panes, false, _, _, rfl, rest_ U' H' false oo vv kk st'⟩
                · walk_at "gf"
                  refine iteEq (fun c5 => ?_) (fun c5 => ?_)
                  · walk_at "gf"
                    refine ⟨h, f, _, rfl, hdL.to sU, f, tr, kd, panes, on, U, rfl, O, fun H5 o5 k5 n5 => ?_⟩
                    walk_at "gf"
                    have s5 : Same U H5 := by walk_at "h"
                    exact stop ⟨U, lp, panes, false, _, _, rfl, rest_ U H5 false (fun b h _ => h) (Same.refl _) (fun b hb _ => k5 b hb) ⟨hdL, s5, o5 U s5 uf ut O.k⟩⟩
                  · walk_at "gf"
                    refine ⟨h, f, tr, kd, panes, on, row / 7, U, rfl, ev, ⟨hdL, sU, O⟩, fun U' H' mm oo vv kk st' => ?_⟩
                    walk_at "gf"
                    exact stop ⟨U', lp, panes, on, _, _, rfl, rest_ U' H' on oo vv kk st'⟩
              · rintro ⟨c2, rfl⟩
                walk_at "gf"
                refine ⟨h, f, tr, kd, panes, false, row / 7, U, rfl, by omega, ev, ⟨hdL, sU, O⟩, fun U' H' mm oo vv kk st' => ?_⟩
                walk_at "gf"
                have e : (!decide (paneV panes = V.non)) = !panes.isEmpty := by cases panes <;> rfl
                rw [e]
                exact stop ⟨U', lp, panes, _, _, _, rfl, rest_ U' H' _ oo vv kk st'⟩
            · rintro ⟨c1, c2⟩
              walk_at "gf"
              rw [List.length_map]
              obtain ⟨j, hj⟩ : ∃ j : Nat, row / 7 % (panes.length : Int) = j := ⟨_, (Int.toNat_of_nonneg (Int.emod_nonneg _ (by omega))).symm⟩
              have hjl : j < panes.length := by have := Int.emod_lt_of_pos (row / 7) (show (0 : Int) < panes.length by omega); omega
              obtain ⟨gone, hg⟩ : ∃ g, panes[j]? = some g := ⟨_, List.getElem?_eq_getElem hjl⟩
              have hgm := List.mem_of_getElem? hg
              have hpl := O.ok.1
              refine ⟨by show (0 : Int) < _; omega, ?_⟩
              refine ⟨lp, _, _, .int gone, rfl, rfl, SqL.of elp, L2.at_of (j := j) hj (by rw [List.getElem?_map, hg]; rfl), ?_⟩
              refine ⟨_, rfl, lp, rfl, ⟨_, SqL.of elp⟩, fun D hD => ?_⟩
              have uD : U D = none := sU.free hD
              refine lc_dp (walk_list (K := K) (a := lp) (xs := panes.map V.int)) (K := K) (V0 := U) (H0 := H3) (fun i => (panes[i]?).bind fun p => if p ≠ gone then some (PyData.int p) else none) _ rfl sU hD (by rw [List.length_map]; omega) (fun H' s => s.seq (SqL.of elp)) (fun i x H H' y => y.1) ?_ ?_
              · rintro m z U2 H4 hm xx ⟨_, hz⟩ Qy Qn hy hno
                rw [List.getElem?_map] at hz
                obtain ⟨p, hp, rfl⟩ := Option.map_eq_some_iff.mp hz
                walk_at "gf"
                refine iteNe (fun c => ?_) (fun c => ?_)
                · exact ⟨_, rfl, hy (.int p) _ _ _ (by rw [hp]; exact if_pos c) (Ext.refl xx.vh) (.int p)⟩
                · exact hno (by rw [hp]; exact if_neg (fun n => n c)) _ _ (Ext.refl xx.vh)
              · rintro U2 H4 ws xx uD2 dA dl
                rw [fm_fmap' (fun p => if p ≠ gone then some (PyData.int p) else none) panes _ (List.length_map ..) _ (fun i x h => by rw [h]; rfl), fm_ne] at dA
                obtain rfl := dp_intsV dA
                have hh := xx.hh
                have eD4 := xx.vh _ _ uD2
                have s4 : Same U H4 := by walk_at "h"
                have nDf : D ≠ f := by walk_at "h"
                have nDt : D ≠ tr := by walk_at "h"
                have O4 : Of A.COffers K U H4 f tr kd panes on := O.frame (Same.refl _) (by walk_at "h")
                obtain ⟨dxh, a1, a2, a3, d1, d2, d3, d4, x1, x2, x3, v, z1, _⟩ := (hdL.to s4).ex
                clear xx dl dA uD2
                walk_at "gf"
                refine ⟨h, f, tr, kd, panes, on, gone, U, rfl, hdL, s4, O4, hgm, fun H5 e5 k5 => ?_⟩
                have s5 : Same U H5 := by walk_at "h"
                obtain ⟨dxf4, ef4⟩ := O4.ob
                have ef5 : H5 f = some (.ins A.COffers dxf4 [("_transfers", .ref tr), ("_kept", .ref kd), ("_is_hovered", .bl on)]) := (k5 f (ne_of ef4 O4.l (by intro z; cases z))).trans ef4
                have ee : panes.erase gone = panes.filter fun p => decide (p ≠ gone) := by
                  rw [L.nd.erase_eq_filter]
                  congr 1
                  funext p
                  by_cases c : p = gone
                  · subst c; simp
                  · simp [c]
                have hle : (panes.filter fun p => decide (p ≠ gone)).length ≤ panes.length := List.length_filter_le _ _
                have hsub : ∀ p ∈ (panes.filter fun p => decide (p ≠ gone)), p ∈ panes := fun p hp => (List.mem_filter.mp hp).1
                rw [ee] at e5
                refine stop ⟨U, D, panes.filter fun p => decide (p ≠ gone), on, _, _, rfl, ⟨hdL, s5, ⟨⟨dxf4, ef5⟩, e5, O.k, uf, ut, by omega, fun p hp => O.ok.2 p (hsub p hp)⟩⟩, by rw [k5 D nDt]; exact eD4, uD, nDf, nDt, L.sc, L.nd.filter _, fun p hp => by have := L.lt p (hsub p hp); omega, by omega⟩
        · rintro σ H4 ⟨⟨U4, lp4, panes4, on4, v9, v10, rfl, L4⟩, -⟩
          walk_at "gf"
          exact ⟨U4, lp4, panes4, on4, _, _, _, _, _, _, _, rfl, L4⟩
    · rintro σ H2 ⟨U, lp, panes, on, v4, v5, v6, v7, v8, v9, v10, rfl, L⟩
      walk_at "gf"
      exact q.go H2
theorem evRow_of {C : Addr} {w : World} {K : PySem.W.Frag} {intf name : Str} {ar : Addr} {ks : List Str} (rows : List (Str × List Str)) (j : Nat) (d : KDct K w C intf (.ref ar)) (dp : ∀ H, Dp K H (.ref ar) (evD rows)) (hl : rows.length < 1000) (hj : rows[j]? = some (name, ks)) (hm : ((rows.take j).all fun r => decide (r.1 ≠ name)) = true) : EvRow C w K intf name j ks := by
  refine ⟨ar, rows, d, dp, hl, hj, fun m row' hlt hr => ?_⟩
  rw [List.all_eq_true] at hm
  have : row' ∈ rows.take j := List.mem_of_getElem? (i := m) (by rw [List.getElem?_take, if_pos hlt]; exact hr)
  exact of_decide_eq_true (hm row' this)
theorem evsT (T : Txt K mg A) (D : Dic w K A) : Evs A.a_EVENTS w K := by
  have dp : ∀ H, Dp K H (.ref A.a_EVENTS_k9) (evD [("offer", ["new", "uint"]), ("hover", ["object", "int", "int"]), ("hover_kind", ["text"]), ("moved", ["uint", "int", "int"]), ("away", []), ("ended", [])]) := fun H => .tup (T.w_EVENTS_k9 H) (.cons (.tup (T.w_EVENTS_k9_0 H) (.cons (.str _) (.cons (.tup (T.w_EVENTS_k9_0_1 H) (.cons (.str _) (.cons (.str _) .nil))) .nil))) (.cons (.tup (T.w_EVENTS_k9_1 H) (.cons (.str _) (.cons (.tup (T.w_EVENTS_k9_1_1 H) (.cons (.str _) (.cons (.str _) (.cons (.str _) .nil)))) .nil))) (.cons (.tup (T.w_EVENTS_k9_2 H) (.cons (.str _) (.cons (.tup (T.w_EVENTS_k9_2_1 H) (.cons (.str _) .nil)) .nil))) (.cons (.tup (T.w_EVENTS_k9_3 H) (.cons (.str _) (.cons (.tup (T.w_EVENTS_k9_3_1 H) (.cons (.str _) (.cons (.str _) (.cons (.str _) .nil)))) .nil))) (.cons (.tup (T.w_EVENTS_k9_4 H) (.cons (.str _) (.cons (.tup (T.w_EVENTS_k9_4_1 H) .nil) .nil))) (.cons (.tup (T.w_EVENTS_k9_5 H) (.cons (.str _) (.cons (.tup (T.w_EVENTS_k9_5_1 H) .nil) .nil))) .nil))))))
  exact ⟨evRow_of _ 1 D.d_EVENTS_k9 dp (by decide) rfl (by decide +kernel), evRow_of _ 2 D.d_EVENTS_k9 dp (by decide) rfl (by decide +kernel), evRow_of _ 3 D.d_EVENTS_k9 dp (by decide) rfl (by decide +kernel), evRow_of _ 4 D.d_EVENTS_k9 dp (by decide) rfl (by decide +kernel)⟩
theorem ok_law (T : Txt K mg A) (D : Dic w K A) : FnOk P w K mg base CX0 13 A.flaw A.dlaw ["script"] (sp_law K) := ok_lawE T (evsT T D)
end
theorem all_mk {w : World} {K : PySem.W.Frag} {h : Heap} {mg : Str → Option Value} {fa : Addr} (X : K.In h) (G : h.Ns mainGlobals mg) (hfa : mg "law" = some (.ref fa))
    {fis_integer : Addr} {od1 an1 : Option Addr} {sl1 : Array (Option Value)} {oc1 kV1 dc1 pm1 cd1 ct1 : Value}
    {fis_text : Addr} {od2 an2 : Option Addr} {sl2 : Array (Option Value)} {oc2 kV2 dc2 pm2 cd2 ct2 : Value}
    {fnumber_octets : Addr} {od3 an3 : Option Addr} {sl3 : Array (Option Value)} {oc3 kV3 dc3 pm3 cd3 ct3 : Value}
    {ffield_octets : Addr} {od4 an4 : Option Addr} {sl4 : Array (Option Value)} {oc4 kV4 dc4 pm4 cd4 ct4 : Value}
    {f_is_code : Addr} {od5 an5 : Option Addr} {sl5 : Array (Option Value)} {oc5 kV5 dc5 pm5 cd5 ct5 : Value}
    {f_is_of : Addr} {od6 an6 : Option Addr} {sl6 : Array (Option Value)} {oc6 kV6 dc6 pm6 cd6 ct6 : Value}
    {f_are_octets : Addr} {od7 an7 : Option Addr} {sl7 : Array (Option Value)} {oc7 kV7 dc7 pm7 cd7 ct7 : Value}
    {f_is_bound : Addr} {od8 an8 : Option Addr} {sl8 : Array (Option Value)} {oc8 kV8 dc8 pm8 cd8 ct8 : Value}
    {f_text_octets : Addr} {od9 an9 : Option Addr} {sl9 : Array (Option Value)} {oc9 kV9 dc9 pm9 cd9 ct9 : Value}
    {f_padded : Addr} {od10 an10 : Option Addr} {sl10 : Array (Option Value)} {oc10 kV10 dc10 pm10 cd10 ct10 : Value}
    {fencode_message : Addr} {od11 an11 : Option Addr} {sl11 : Array (Option Value)} {oc11 kV11 dc11 pm11 cd11 ct11 : Value}
    {fevent_octets : Addr} {od12 an12 : Option Addr} {sl12 : Array (Option Value)} {oc12 kV12 dc12 pm12 cd12 ct12 : Value}
    {f_opcode_of : Addr} {od13 an13 : Option Addr} {sl13 : Array (Option Value)} {oc13 kV13 dc13 pm13 cd13 ct13 : Value}
    {f_law_cell : Addr} {od14 an14 : Option Addr} {sl14 : Array (Option Value)} {oc14 kV14 dc14 pm14 cd14 ct14 : Value}
    {f_law_row : Addr} {od15 an15 : Option Addr} {sl15 : Array (Option Value)} {oc15 kV15 dc15 pm15 cd15 ct15 : Value}
    {f_law_hover : Addr} {od16 an16 : Option Addr} {sl16 : Array (Option Value)} {oc16 kV16 dc16 pm16 cd16 ct16 : Value}
    {f_law_move : Addr} {od17 an17 : Option Addr} {sl17 : Array (Option Value)} {oc17 kV17 dc17 pm17 cd17 ct17 : Value}
    {f_law_leave : Addr} {od18 an18 : Option Addr} {sl18 : Array (Option Value)} {oc18 kV18 dc18 pm18 cd18 ct18 : Value}
    {flaw : Addr} {od19 an19 : Option Addr} {sl19 : Array (Option Value)} {oc19 kV19 dc19 pm19 cd19 ct19 : Value}
    {fCaptures___init__ : Addr} {od20 an20 : Option Addr} {sl20 : Array (Option Value)} {oc20 kV20 dc20 pm20 cd20 ct20 : Value}
    {fCaptures_forget : Addr} {od21 an21 : Option Addr} {sl21 : Array (Option Value)} {oc21 kV21 dc21 pm21 cd21 ct21 : Value}
    {fFetches___init__ : Addr} {od22 an22 : Option Addr} {sl22 : Array (Option Value)} {oc22 kV22 dc22 pm22 cd22 ct22 : Value}
    {fFetches_forget : Addr} {od23 an23 : Option Addr} {sl23 : Array (Option Value)} {oc23 kV23 dc23 pm23 cd23 ct23 : Value}
    {fOffers___init__ : Addr} {od24 an24 : Option Addr} {sl24 : Array (Option Value)} {oc24 kV24 dc24 pm24 cd24 ct24 : Value}
    {fOffers_bound : Addr} {od25 an25 : Option Addr} {sl25 : Array (Option Value)} {oc25 kV25 dc25 pm25 cd25 ct25 : Value}
    {fOffers_pane : Addr} {od26 an26 : Option Addr} {sl26 : Array (Option Value)} {oc26 kV26 dc26 pm26 cd26 ct26 : Value}
    {fOffers_forget : Addr} {od27 an27 : Option Addr} {sl27 : Array (Option Value)} {oc27 kV27 dc27 pm27 cd27 ct27 : Value}
    {fOffers_hovers : Addr} {od28 an28 : Option Addr} {sl28 : Array (Option Value)} {oc28 kV28 dc28 pm28 cd28 ct28 : Value}
    {fOffers_moves : Addr} {od29 an29 : Option Addr} {sl29 : Array (Option Value)} {oc29 kV29 dc29 pm29 cd29 ct29 : Value}
    {fOffers_leaves : Addr} {od30 an30 : Option Addr} {sl30 : Array (Option Value)} {oc30 kV30 dc30 pm30 cd30 ct30 : Value}
    {fOffers_dropped : Addr} {od31 an31 : Option Addr} {sl31 : Array (Option Value)} {oc31 kV31 dc31 pm31 cd31 ct31 : Value}
    {fSources___init__ : Addr} {od32 an32 : Option Addr} {sl32 : Array (Option Value)} {oc32 kV32 dc32 pm32 cd32 ct32 : Value}
    {fSources_forget : Addr} {od33 an33 : Option Addr} {sl33 : Array (Option Value)} {oc33 kV33 dc33 pm33 cd33 ct33 : Value}
    {fHoldings___init__ : Addr} {od34 an34 : Option Addr} {sl34 : Array (Option Value)} {oc34 kV34 dc34 pm34 cd34 ct34 : Value}
    {fHoldings_bound : Addr} {od35 an35 : Option Addr} {sl35 : Array (Option Value)} {oc35 kV35 dc35 pm35 cd35 ct35 : Value}
    {fHoldings_ended : Addr} {od36 an36 : Option Addr} {sl36 : Array (Option Value)} {oc36 kV36 dc36 pm36 cd36 ct36 : Value}
    {fHoldings_pane : Addr} {od37 an37 : Option Addr} {sl37 : Array (Option Value)} {oc37 kV37 dc37 pm37 cd37 ct37 : Value}
    {fHoldings_hovers : Addr} {od38 an38 : Option Addr} {sl38 : Array (Option Value)} {oc38 kV38 dc38 pm38 cd38 ct38 : Value}
    {fHoldings_moves : Addr} {od39 an39 : Option Addr} {sl39 : Array (Option Value)} {oc39 kV39 dc39 pm39 cd39 ct39 : Value}
    {fHoldings_leaves : Addr} {od40 an40 : Option Addr} {sl40 : Array (Option Value)} {oc40 kV40 dc40 pm40 cd40 ct40 : Value}
    {fHoldings_dropped : Addr} {od41 an41 : Option Addr} {sl41 : Array (Option Value)} {oc41 kV41 dc41 pm41 cd41 ct41 : Value}
    {fReply___init__ : Addr} {od42 an42 : Option Addr} {sl42 : Array (Option Value)} {oc42 kV42 dc42 pm42 cd42 ct42 : Value}
    {fReply_tell : Addr} {od43 an43 : Option Addr} {sl43 : Array (Option Value)} {oc43 kV43 dc43 pm43 cd43 ct43 : Value}
    {tGREATEST_NUMBER : Tok}
    {tLEAST_INT : Tok}
    {tGREATEST_INT : Tok}
    {tLONGEST_TEXT_fields : Tok}
    {tMOST_OCTETS_fields : Tok}
    {t_FIRST_CODE : Tok}
    {t_LAST_CODE : Tok}
    {t_PERCENT_CODE : Tok}
    {tHEADER_SIZE : Tok}
    {tGREATEST_SIZE : Tok}
    {tGREATEST_OPCODE : Tok}
    {tMOST_ARGUMENTS : Tok}
    {a_EVENTS : Addr}
    {es_EVENTS : Array DictEntry} {nn_EVENTS : Nat}
    {a_EVENTS_k0 : Addr}
    {ow_EVENTS_k0 : Option Addr} {nw_EVENTS_k0 : Nat} {sw_EVENTS_k0 : Array (Option Value)}
    {a_EVENTS_k0_0 : Addr}
    {tk_EVENTS_k0_0_0 : Tok}
    {ow_EVENTS_k0_0 : Option Addr} {nw_EVENTS_k0_0 : Nat} {sw_EVENTS_k0_0 : Array (Option Value)}
    {a_EVENTS_k0_0_1 : Addr}
    {tk_EVENTS_k0_0_1_0 tk_EVENTS_k0_0_1_1 tk_EVENTS_k0_0_1_2 : Tok}
    {ow_EVENTS_k0_0_1 : Option Addr} {nw_EVENTS_k0_0_1 : Nat} {sw_EVENTS_k0_0_1 : Array (Option Value)}
    {a_EVENTS_k0_1 : Addr}
    {tk_EVENTS_k0_1_0 : Tok}
    {ow_EVENTS_k0_1 : Option Addr} {nw_EVENTS_k0_1 : Nat} {sw_EVENTS_k0_1 : Array (Option Value)}
    {a_EVENTS_k0_1_1 : Addr}
    {tk_EVENTS_k0_1_1_0 : Tok}
    {ow_EVENTS_k0_1_1 : Option Addr} {nw_EVENTS_k0_1_1 : Nat} {sw_EVENTS_k0_1_1 : Array (Option Value)}
    {a_EVENTS_k1 : Addr}
    {ow_EVENTS_k1 : Option Addr} {nw_EVENTS_k1 : Nat} {sw_EVENTS_k1 : Array (Option Value)}
    {a_EVENTS_k1_0 : Addr}
    {tk_EVENTS_k1_0_0 : Tok}
    {ow_EVENTS_k1_0 : Option Addr} {nw_EVENTS_k1_0 : Nat} {sw_EVENTS_k1_0 : Array (Option Value)}
    {a_EVENTS_k1_0_1 : Addr}
    {tk_EVENTS_k1_0_1_0 : Tok}
    {ow_EVENTS_k1_0_1 : Option Addr} {nw_EVENTS_k1_0_1 : Nat} {sw_EVENTS_k1_0_1 : Array (Option Value)}
    {a_EVENTS_k2 : Addr}
    {ow_EVENTS_k2 : Option Addr} {nw_EVENTS_k2 : Nat} {sw_EVENTS_k2 : Array (Option Value)}
    {a_EVENTS_k2_0 : Addr}
    {tk_EVENTS_k2_0_0 : Tok}
    {ow_EVENTS_k2_0 : Option Addr} {nw_EVENTS_k2_0 : Nat} {sw_EVENTS_k2_0 : Array (Option Value)}
    {a_EVENTS_k2_0_1 : Addr}
    {tk_EVENTS_k2_0_1_0 tk_EVENTS_k2_0_1_1 : Tok}
    {ow_EVENTS_k2_0_1 : Option Addr} {nw_EVENTS_k2_0_1 : Nat} {sw_EVENTS_k2_0_1 : Array (Option Value)}
    {a_EVENTS_k2_1 : Addr}
    {tk_EVENTS_k2_1_0 : Tok}
    {ow_EVENTS_k2_1 : Option Addr} {nw_EVENTS_k2_1 : Nat} {sw_EVENTS_k2_1 : Array (Option Value)}
    {a_EVENTS_k2_1_1 : Addr}
    {tk_EVENTS_k2_1_1_0 : Tok}
    {ow_EVENTS_k2_1_1 : Option Addr} {nw_EVENTS_k2_1_1 : Nat} {sw_EVENTS_k2_1_1 : Array (Option Value)}
    {a_EVENTS_k3 : Addr}
    {ow_EVENTS_k3 : Option Addr} {nw_EVENTS_k3 : Nat} {sw_EVENTS_k3 : Array (Option Value)}
    {a_EVENTS_k3_0 : Addr}
    {tk_EVENTS_k3_0_0 : Tok}
    {ow_EVENTS_k3_0 : Option Addr} {nw_EVENTS_k3_0 : Nat} {sw_EVENTS_k3_0 : Array (Option Value)}
    {a_EVENTS_k3_0_1 : Addr}
    {ow_EVENTS_k3_0_1 : Option Addr} {nw_EVENTS_k3_0_1 : Nat} {sw_EVENTS_k3_0_1 : Array (Option Value)}
    {a_EVENTS_k4 : Addr}
    {ow_EVENTS_k4 : Option Addr} {nw_EVENTS_k4 : Nat} {sw_EVENTS_k4 : Array (Option Value)}
    {a_EVENTS_k4_0 : Addr}
    {tk_EVENTS_k4_0_0 : Tok}
    {ow_EVENTS_k4_0 : Option Addr} {nw_EVENTS_k4_0 : Nat} {sw_EVENTS_k4_0 : Array (Option Value)}
    {a_EVENTS_k4_0_1 : Addr}
    {tk_EVENTS_k4_0_1_0 tk_EVENTS_k4_0_1_1 tk_EVENTS_k4_0_1_2 tk_EVENTS_k4_0_1_3 : Tok}
    {ow_EVENTS_k4_0_1 : Option Addr} {nw_EVENTS_k4_0_1 : Nat} {sw_EVENTS_k4_0_1 : Array (Option Value)}
    {a_EVENTS_k5 : Addr}
    {ow_EVENTS_k5 : Option Addr} {nw_EVENTS_k5 : Nat} {sw_EVENTS_k5 : Array (Option Value)}
    {a_EVENTS_k5_0 : Addr}
    {tk_EVENTS_k5_0_0 : Tok}
    {ow_EVENTS_k5_0 : Option Addr} {nw_EVENTS_k5_0 : Nat} {sw_EVENTS_k5_0 : Array (Option Value)}
    {a_EVENTS_k5_0_1 : Addr}
    {tk_EVENTS_k5_0_1_0 tk_EVENTS_k5_0_1_1 tk_EVENTS_k5_0_1_2 tk_EVENTS_k5_0_1_3 : Tok}
    {ow_EVENTS_k5_0_1 : Option Addr} {nw_EVENTS_k5_0_1 : Nat} {sw_EVENTS_k5_0_1 : Array (Option Value)}
    {a_EVENTS_k5_1 : Addr}
    {tk_EVENTS_k5_1_0 : Tok}
    {ow_EVENTS_k5_1 : Option Addr} {nw_EVENTS_k5_1 : Nat} {sw_EVENTS_k5_1 : Array (Option Value)}
    {a_EVENTS_k5_1_1 : Addr}
    {ow_EVENTS_k5_1_1 : Option Addr} {nw_EVENTS_k5_1_1 : Nat} {sw_EVENTS_k5_1_1 : Array (Option Value)}
    {a_EVENTS_k5_2 : Addr}
    {tk_EVENTS_k5_2_0 : Tok}
    {ow_EVENTS_k5_2 : Option Addr} {nw_EVENTS_k5_2 : Nat} {sw_EVENTS_k5_2 : Array (Option Value)}
    {a_EVENTS_k5_2_1 : Addr}
    {tk_EVENTS_k5_2_1_0 : Tok}
    {ow_EVENTS_k5_2_1 : Option Addr} {nw_EVENTS_k5_2_1 : Nat} {sw_EVENTS_k5_2_1 : Array (Option Value)}
    {a_EVENTS_k5_3 : Addr}
    {tk_EVENTS_k5_3_0 : Tok}
    {ow_EVENTS_k5_3 : Option Addr} {nw_EVENTS_k5_3 : Nat} {sw_EVENTS_k5_3 : Array (Option Value)}
    {a_EVENTS_k5_3_1 : Addr}
    {tk_EVENTS_k5_3_1_0 : Tok}
    {ow_EVENTS_k5_3_1 : Option Addr} {nw_EVENTS_k5_3_1 : Nat} {sw_EVENTS_k5_3_1 : Array (Option Value)}
    {a_EVENTS_k6 : Addr}
    {ow_EVENTS_k6 : Option Addr} {nw_EVENTS_k6 : Nat} {sw_EVENTS_k6 : Array (Option Value)}
    {a_EVENTS_k6_0 : Addr}
    {tk_EVENTS_k6_0_0 : Tok}
    {ow_EVENTS_k6_0 : Option Addr} {nw_EVENTS_k6_0 : Nat} {sw_EVENTS_k6_0 : Array (Option Value)}
    {a_EVENTS_k6_0_1 : Addr}
    {tk_EVENTS_k6_0_1_0 tk_EVENTS_k6_0_1_1 tk_EVENTS_k6_0_1_2 tk_EVENTS_k6_0_1_3 : Tok}
    {ow_EVENTS_k6_0_1 : Option Addr} {nw_EVENTS_k6_0_1 : Nat} {sw_EVENTS_k6_0_1 : Array (Option Value)}
    {a_EVENTS_k6_1 : Addr}
    {tk_EVENTS_k6_1_0 : Tok}
    {ow_EVENTS_k6_1 : Option Addr} {nw_EVENTS_k6_1 : Nat} {sw_EVENTS_k6_1 : Array (Option Value)}
    {a_EVENTS_k6_1_1 : Addr}
    {ow_EVENTS_k6_1_1 : Option Addr} {nw_EVENTS_k6_1_1 : Nat} {sw_EVENTS_k6_1_1 : Array (Option Value)}
    {a_EVENTS_k7 : Addr}
    {ow_EVENTS_k7 : Option Addr} {nw_EVENTS_k7 : Nat} {sw_EVENTS_k7 : Array (Option Value)}
    {a_EVENTS_k7_0 : Addr}
    {tk_EVENTS_k7_0_0 : Tok}
    {ow_EVENTS_k7_0 : Option Addr} {nw_EVENTS_k7_0 : Nat} {sw_EVENTS_k7_0 : Array (Option Value)}
    {a_EVENTS_k7_0_1 : Addr}
    {tk_EVENTS_k7_0_1_0 tk_EVENTS_k7_0_1_1 tk_EVENTS_k7_0_1_2 : Tok}
    {ow_EVENTS_k7_0_1 : Option Addr} {nw_EVENTS_k7_0_1 : Nat} {sw_EVENTS_k7_0_1 : Array (Option Value)}
    {a_EVENTS_k7_1 : Addr}
    {tk_EVENTS_k7_1_0 : Tok}
    {ow_EVENTS_k7_1 : Option Addr} {nw_EVENTS_k7_1 : Nat} {sw_EVENTS_k7_1 : Array (Option Value)}
    {a_EVENTS_k7_1_1 : Addr}
    {tk_EVENTS_k7_1_1_0 : Tok}
    {ow_EVENTS_k7_1_1 : Option Addr} {nw_EVENTS_k7_1_1 : Nat} {sw_EVENTS_k7_1_1 : Array (Option Value)}
    {a_EVENTS_k7_2 : Addr}
    {tk_EVENTS_k7_2_0 : Tok}
    {ow_EVENTS_k7_2 : Option Addr} {nw_EVENTS_k7_2 : Nat} {sw_EVENTS_k7_2 : Array (Option Value)}
    {a_EVENTS_k7_2_1 : Addr}
    {tk_EVENTS_k7_2_1_0 tk_EVENTS_k7_2_1_1 tk_EVENTS_k7_2_1_2 : Tok}
    {ow_EVENTS_k7_2_1 : Option Addr} {nw_EVENTS_k7_2_1 : Nat} {sw_EVENTS_k7_2_1 : Array (Option Value)}
    {a_EVENTS_k7_3 : Addr}
    {tk_EVENTS_k7_3_0 : Tok}
    {ow_EVENTS_k7_3 : Option Addr} {nw_EVENTS_k7_3 : Nat} {sw_EVENTS_k7_3 : Array (Option Value)}
    {a_EVENTS_k7_3_1 : Addr}
    {tk_EVENTS_k7_3_1_0 tk_EVENTS_k7_3_1_1 tk_EVENTS_k7_3_1_2 tk_EVENTS_k7_3_1_3 : Tok}
    {ow_EVENTS_k7_3_1 : Option Addr} {nw_EVENTS_k7_3_1 : Nat} {sw_EVENTS_k7_3_1 : Array (Option Value)}
    {a_EVENTS_k7_4 : Addr}
    {tk_EVENTS_k7_4_0 : Tok}
    {ow_EVENTS_k7_4 : Option Addr} {nw_EVENTS_k7_4 : Nat} {sw_EVENTS_k7_4 : Array (Option Value)}
    {a_EVENTS_k7_4_1 : Addr}
    {tk_EVENTS_k7_4_1_0 tk_EVENTS_k7_4_1_1 tk_EVENTS_k7_4_1_2 : Tok}
    {ow_EVENTS_k7_4_1 : Option Addr} {nw_EVENTS_k7_4_1 : Nat} {sw_EVENTS_k7_4_1 : Array (Option Value)}
    {a_EVENTS_k8 : Addr}
    {ow_EVENTS_k8 : Option Addr} {nw_EVENTS_k8 : Nat} {sw_EVENTS_k8 : Array (Option Value)}
    {a_EVENTS_k8_0 : Addr}
    {tk_EVENTS_k8_0_0 : Tok}
    {ow_EVENTS_k8_0 : Option Addr} {nw_EVENTS_k8_0 : Nat} {sw_EVENTS_k8_0 : Array (Option Value)}
    {a_EVENTS_k8_0_1 : Addr}
    {tk_EVENTS_k8_0_1_0 : Tok}
    {ow_EVENTS_k8_0_1 : Option Addr} {nw_EVENTS_k8_0_1 : Nat} {sw_EVENTS_k8_0_1 : Array (Option Value)}
    {a_EVENTS_k8_1 : Addr}
    {tk_EVENTS_k8_1_0 : Tok}
    {ow_EVENTS_k8_1 : Option Addr} {nw_EVENTS_k8_1 : Nat} {sw_EVENTS_k8_1 : Array (Option Value)}
    {a_EVENTS_k8_1_1 : Addr}
    {tk_EVENTS_k8_1_1_0 : Tok}
    {ow_EVENTS_k8_1_1 : Option Addr} {nw_EVENTS_k8_1_1 : Nat} {sw_EVENTS_k8_1_1 : Array (Option Value)}
    {a_EVENTS_k8_2 : Addr}
    {tk_EVENTS_k8_2_0 : Tok}
    {ow_EVENTS_k8_2 : Option Addr} {nw_EVENTS_k8_2 : Nat} {sw_EVENTS_k8_2 : Array (Option Value)}
    {a_EVENTS_k8_2_1 : Addr}
    {tk_EVENTS_k8_2_1_0 : Tok}
    {ow_EVENTS_k8_2_1 : Option Addr} {nw_EVENTS_k8_2_1 : Nat} {sw_EVENTS_k8_2_1 : Array (Option Value)}
    {a_EVENTS_k8_3 : Addr}
    {tk_EVENTS_k8_3_0 : Tok}
    {ow_EVENTS_k8_3 : Option Addr} {nw_EVENTS_k8_3 : Nat} {sw_EVENTS_k8_3 : Array (Option Value)}
    {a_EVENTS_k8_3_1 : Addr}
    {tk_EVENTS_k8_3_1_0 tk_EVENTS_k8_3_1_1 tk_EVENTS_k8_3_1_2 tk_EVENTS_k8_3_1_3 : Tok}
    {ow_EVENTS_k8_3_1 : Option Addr} {nw_EVENTS_k8_3_1 : Nat} {sw_EVENTS_k8_3_1 : Array (Option Value)}
    {a_EVENTS_k8_4 : Addr}
    {tk_EVENTS_k8_4_0 : Tok}
    {ow_EVENTS_k8_4 : Option Addr} {nw_EVENTS_k8_4 : Nat} {sw_EVENTS_k8_4 : Array (Option Value)}
    {a_EVENTS_k8_4_1 : Addr}
    {tk_EVENTS_k8_4_1_0 tk_EVENTS_k8_4_1_1 tk_EVENTS_k8_4_1_2 : Tok}
    {ow_EVENTS_k8_4_1 : Option Addr} {nw_EVENTS_k8_4_1 : Nat} {sw_EVENTS_k8_4_1 : Array (Option Value)}
    {a_EVENTS_k9 : Addr}
    {ow_EVENTS_k9 : Option Addr} {nw_EVENTS_k9 : Nat} {sw_EVENTS_k9 : Array (Option Value)}
    {a_EVENTS_k9_0 : Addr}
    {tk_EVENTS_k9_0_0 : Tok}
    {ow_EVENTS_k9_0 : Option Addr} {nw_EVENTS_k9_0 : Nat} {sw_EVENTS_k9_0 : Array (Option Value)}
    {a_EVENTS_k9_0_1 : Addr}
    {tk_EVENTS_k9_0_1_0 tk_EVENTS_k9_0_1_1 : Tok}
    {ow_EVENTS_k9_0_1 : Option Addr} {nw_EVENTS_k9_0_1 : Nat} {sw_EVENTS_k9_0_1 : Array (Option Value)}
    {a_EVENTS_k9_1 : Addr}
    {tk_EVENTS_k9_1_0 : Tok}
    {ow_EVENTS_k9_1 : Option Addr} {nw_EVENTS_k9_1 : Nat} {sw_EVENTS_k9_1 : Array (Option Value)}
    {a_EVENTS_k9_1_1 : Addr}
    {tk_EVENTS_k9_1_1_0 tk_EVENTS_k9_1_1_1 tk_EVENTS_k9_1_1_2 : Tok}
    {ow_EVENTS_k9_1_1 : Option Addr} {nw_EVENTS_k9_1_1 : Nat} {sw_EVENTS_k9_1_1 : Array (Option Value)}
    {a_EVENTS_k9_2 : Addr}
    {tk_EVENTS_k9_2_0 : Tok}
    {ow_EVENTS_k9_2 : Option Addr} {nw_EVENTS_k9_2 : Nat} {sw_EVENTS_k9_2 : Array (Option Value)}
    {a_EVENTS_k9_2_1 : Addr}
    {tk_EVENTS_k9_2_1_0 : Tok}
    {ow_EVENTS_k9_2_1 : Option Addr} {nw_EVENTS_k9_2_1 : Nat} {sw_EVENTS_k9_2_1 : Array (Option Value)}
    {a_EVENTS_k9_3 : Addr}
    {tk_EVENTS_k9_3_0 : Tok}
    {ow_EVENTS_k9_3 : Option Addr} {nw_EVENTS_k9_3 : Nat} {sw_EVENTS_k9_3 : Array (Option Value)}
    {a_EVENTS_k9_3_1 : Addr}
    {tk_EVENTS_k9_3_1_0 tk_EVENTS_k9_3_1_1 tk_EVENTS_k9_3_1_2 : Tok}
    {ow_EVENTS_k9_3_1 : Option Addr} {nw_EVENTS_k9_3_1 : Nat} {sw_EVENTS_k9_3_1 : Array (Option Value)}
    {a_EVENTS_k9_4 : Addr}
    {tk_EVENTS_k9_4_0 : Tok}
    {ow_EVENTS_k9_4 : Option Addr} {nw_EVENTS_k9_4 : Nat} {sw_EVENTS_k9_4 : Array (Option Value)}
    {a_EVENTS_k9_4_1 : Addr}
    {ow_EVENTS_k9_4_1 : Option Addr} {nw_EVENTS_k9_4_1 : Nat} {sw_EVENTS_k9_4_1 : Array (Option Value)}
    {a_EVENTS_k9_5 : Addr}
    {tk_EVENTS_k9_5_0 : Tok}
    {ow_EVENTS_k9_5 : Option Addr} {nw_EVENTS_k9_5 : Nat} {sw_EVENTS_k9_5 : Array (Option Value)}
    {a_EVENTS_k9_5_1 : Addr}
    {ow_EVENTS_k9_5_1 : Option Addr} {nw_EVENTS_k9_5_1 : Nat} {sw_EVENTS_k9_5_1 : Array (Option Value)}
    {a_EVENTS_k10 : Addr}
    {ow_EVENTS_k10 : Option Addr} {nw_EVENTS_k10 : Nat} {sw_EVENTS_k10 : Array (Option Value)}
    {a_EVENTS_k10_0 : Addr}
    {tk_EVENTS_k10_0_0 : Tok}
    {ow_EVENTS_k10_0 : Option Addr} {nw_EVENTS_k10_0 : Nat} {sw_EVENTS_k10_0 : Array (Option Value)}
    {a_EVENTS_k10_0_1 : Addr}
    {tk_EVENTS_k10_0_1_0 tk_EVENTS_k10_0_1_1 : Tok}
    {ow_EVENTS_k10_0_1 : Option Addr} {nw_EVENTS_k10_0_1 : Nat} {sw_EVENTS_k10_0_1 : Array (Option Value)}
    {a_EVENTS_k10_1 : Addr}
    {tk_EVENTS_k10_1_0 : Tok}
    {ow_EVENTS_k10_1 : Option Addr} {nw_EVENTS_k10_1 : Nat} {sw_EVENTS_k10_1 : Array (Option Value)}
    {a_EVENTS_k10_1_1 : Addr}
    {tk_EVENTS_k10_1_1_0 tk_EVENTS_k10_1_1_1 tk_EVENTS_k10_1_1_2 : Tok}
    {ow_EVENTS_k10_1_1 : Option Addr} {nw_EVENTS_k10_1_1 : Nat} {sw_EVENTS_k10_1_1 : Array (Option Value)}
    {a_EVENTS_k11 : Addr}
    {ow_EVENTS_k11 : Option Addr} {nw_EVENTS_k11 : Nat} {sw_EVENTS_k11 : Array (Option Value)}
    {a_EVENTS_k11_0 : Addr}
    {tk_EVENTS_k11_0_0 : Tok}
    {ow_EVENTS_k11_0 : Option Addr} {nw_EVENTS_k11_0 : Nat} {sw_EVENTS_k11_0 : Array (Option Value)}
    {a_EVENTS_k11_0_1 : Addr}
    {tk_EVENTS_k11_0_1_0 tk_EVENTS_k11_0_1_1 : Tok}
    {ow_EVENTS_k11_0_1 : Option Addr} {nw_EVENTS_k11_0_1 : Nat} {sw_EVENTS_k11_0_1 : Array (Option Value)}
    {a_EVENTS_k11_1 : Addr}
    {tk_EVENTS_k11_1_0 : Tok}
    {ow_EVENTS_k11_1 : Option Addr} {nw_EVENTS_k11_1 : Nat} {sw_EVENTS_k11_1 : Array (Option Value)}
    {a_EVENTS_k11_1_1 : Addr}
    {ow_EVENTS_k11_1_1 : Option Addr} {nw_EVENTS_k11_1_1 : Nat} {sw_EVENTS_k11_1_1 : Array (Option Value)}
    {a_EVENTS_k11_2 : Addr}
    {tk_EVENTS_k11_2_0 : Tok}
    {ow_EVENTS_k11_2 : Option Addr} {nw_EVENTS_k11_2 : Nat} {sw_EVENTS_k11_2 : Array (Option Value)}
    {a_EVENTS_k11_2_1 : Addr}
    {tk_EVENTS_k11_2_1_0 tk_EVENTS_k11_2_1_1 : Tok}
    {ow_EVENTS_k11_2_1 : Option Addr} {nw_EVENTS_k11_2_1 : Nat} {sw_EVENTS_k11_2_1 : Array (Option Value)}
    {a_EVENTS_k12 : Addr}
    {ow_EVENTS_k12 : Option Addr} {nw_EVENTS_k12 : Nat} {sw_EVENTS_k12 : Array (Option Value)}
    {a_EVENTS_k12_0 : Addr}
    {tk_EVENTS_k12_0_0 : Tok}
    {ow_EVENTS_k12_0 : Option Addr} {nw_EVENTS_k12_0 : Nat} {sw_EVENTS_k12_0 : Array (Option Value)}
    {a_EVENTS_k12_0_1 : Addr}
    {tk_EVENTS_k12_0_1_0 : Tok}
    {ow_EVENTS_k12_0_1 : Option Addr} {nw_EVENTS_k12_0_1 : Nat} {sw_EVENTS_k12_0_1 : Array (Option Value)}
    {a_EVENTS_k12_1 : Addr}
    {tk_EVENTS_k12_1_0 : Tok}
    {ow_EVENTS_k12_1 : Option Addr} {nw_EVENTS_k12_1 : Nat} {sw_EVENTS_k12_1 : Array (Option Value)}
    {a_EVENTS_k12_1_1 : Addr}
    {ow_EVENTS_k12_1_1 : Option Addr} {nw_EVENTS_k12_1_1 : Nat} {sw_EVENTS_k12_1_1 : Array (Option Value)}
    {a_EVENTS_k12_2 : Addr}
    {tk_EVENTS_k12_2_0 : Tok}
    {ow_EVENTS_k12_2 : Option Addr} {nw_EVENTS_k12_2 : Nat} {sw_EVENTS_k12_2 : Array (Option Value)}
    {a_EVENTS_k12_2_1 : Addr}
    {tk_EVENTS_k12_2_1_0 tk_EVENTS_k12_2_1_1 : Tok}
    {ow_EVENTS_k12_2_1 : Option Addr} {nw_EVENTS_k12_2_1 : Nat} {sw_EVENTS_k12_2_1 : Array (Option Value)}
    {a_EVENTS_k13 : Addr}
    {ow_EVENTS_k13 : Option Addr} {nw_EVENTS_k13 : Nat} {sw_EVENTS_k13 : Array (Option Value)}
    {a_EVENTS_k13_0 : Addr}
    {tk_EVENTS_k13_0_0 : Tok}
    {ow_EVENTS_k13_0 : Option Addr} {nw_EVENTS_k13_0 : Nat} {sw_EVENTS_k13_0 : Array (Option Value)}
    {a_EVENTS_k13_0_1 : Addr}
    {ow_EVENTS_k13_0_1 : Option Addr} {nw_EVENTS_k13_0_1 : Nat} {sw_EVENTS_k13_0_1 : Array (Option Value)}
    {a_EVENTS_k13_1 : Addr}
    {tk_EVENTS_k13_1_0 : Tok}
    {ow_EVENTS_k13_1 : Option Addr} {nw_EVENTS_k13_1 : Nat} {sw_EVENTS_k13_1 : Array (Option Value)}
    {a_EVENTS_k13_1_1 : Addr}
    {ow_EVENTS_k13_1_1 : Option Addr} {nw_EVENTS_k13_1_1 : Nat} {sw_EVENTS_k13_1_1 : Array (Option Value)}
    {CCaptures : Addr}
    {CFetches : Addr}
    {COffers : Addr}
    {CSources : Addr}
    {CHoldings : Addr}
    {CReply : Addr}
    {CBadMessage : Addr}
    {CMessageTooLong : Addr}
    (a1 : PySem.W.nsIn K mainGlobals "is_integer" = some (some (.ref fis_integer)))
    (l1 : K.lookup fis_integer = some ⟨oc1, od1, .func (PySem.W.fnOf "is_integer" "is_integer" (defArgs s_is_integer) (defBody s_is_integer) (defScope s_is_integer) .none kV1 dc1 pm1 an1 cd1 ct1), sl1⟩) (c1 : PySem.W.codeIn K cd1 "is_integer" = true) (k1 : PySem.W.keepIn K (.ref fis_integer) = true)
    (a2 : PySem.W.nsIn K mainGlobals "is_text" = some (some (.ref fis_text)))
    (l2 : K.lookup fis_text = some ⟨oc2, od2, .func (PySem.W.fnOf "is_text" "is_text" (defArgs s_is_text) (defBody s_is_text) (defScope s_is_text) .none kV2 dc2 pm2 an2 cd2 ct2), sl2⟩) (c2 : PySem.W.codeIn K cd2 "is_text" = true) (k2 : PySem.W.keepIn K (.ref fis_text) = true)
    (a3 : PySem.W.nsIn K mainGlobals "number_octets" = some (some (.ref fnumber_octets)))
    (l3 : K.lookup fnumber_octets = some ⟨oc3, od3, .func (PySem.W.fnOf "number_octets" "number_octets" (defArgs s_number_octets) (defBody s_number_octets) (defScope s_number_octets) .none kV3 dc3 pm3 an3 cd3 ct3), sl3⟩) (c3 : PySem.W.codeIn K cd3 "number_octets" = true) (k3 : PySem.W.keepIn K (.ref fnumber_octets) = true)
    (a4 : PySem.W.nsIn K mainGlobals "field_octets" = some (some (.ref ffield_octets)))
    (l4 : K.lookup ffield_octets = some ⟨oc4, od4, .func (PySem.W.fnOf "field_octets" "field_octets" (defArgs s_field_octets) (defBody s_field_octets) (defScope s_field_octets) .none kV4 dc4 pm4 an4 cd4 ct4), sl4⟩) (c4 : PySem.W.codeIn K cd4 "field_octets" = true) (k4 : PySem.W.keepIn K (.ref ffield_octets) = true)
    (a5 : PySem.W.nsIn K mainGlobals "_is_code" = some (some (.ref f_is_code)))
    (l5 : K.lookup f_is_code = some ⟨oc5, od5, .func (PySem.W.fnOf "_is_code" "_is_code" (defArgs s__is_code) (defBody s__is_code) (defScope s__is_code) .none kV5 dc5 pm5 an5 cd5 ct5), sl5⟩) (c5 : PySem.W.codeIn K cd5 "_is_code" = true) (k5 : PySem.W.keepIn K (.ref f_is_code) = true)
    (a6 : PySem.W.nsIn K mainGlobals "_is_of" = some (some (.ref f_is_of)))
    (l6 : K.lookup f_is_of = some ⟨oc6, od6, .func (PySem.W.fnOf "_is_of" "_is_of" (defArgs s__is_of) (defBody s__is_of) (defScope s__is_of) .none kV6 dc6 pm6 an6 cd6 ct6), sl6⟩) (c6 : PySem.W.codeIn K cd6 "_is_of" = true) (k6 : PySem.W.keepIn K (.ref f_is_of) = true)
    (a7 : PySem.W.nsIn K mainGlobals "_are_octets" = some (some (.ref f_are_octets)))
    (l7 : K.lookup f_are_octets = some ⟨oc7, od7, .func (PySem.W.fnOf "_are_octets" "_are_octets" (defArgs s__are_octets) (defBody s__are_octets) (defScope s__are_octets) .none kV7 dc7 pm7 an7 cd7 ct7), sl7⟩) (c7 : PySem.W.codeIn K cd7 "_are_octets" = true) (k7 : PySem.W.keepIn K (.ref f_are_octets) = true)
    (a8 : PySem.W.nsIn K mainGlobals "_is_bound" = some (some (.ref f_is_bound)))
    (l8 : K.lookup f_is_bound = some ⟨oc8, od8, .func (PySem.W.fnOf "_is_bound" "_is_bound" (defArgs s__is_bound) (defBody s__is_bound) (defScope s__is_bound) .none kV8 dc8 pm8 an8 cd8 ct8), sl8⟩) (c8 : PySem.W.codeIn K cd8 "_is_bound" = true) (k8 : PySem.W.keepIn K (.ref f_is_bound) = true)
    (a9 : PySem.W.nsIn K mainGlobals "_text_octets" = some (some (.ref f_text_octets)))
    (l9 : K.lookup f_text_octets = some ⟨oc9, od9, .func (PySem.W.fnOf "_text_octets" "_text_octets" (defArgs s__text_octets) (defBody s__text_octets) (defScope s__text_octets) .none kV9 dc9 pm9 an9 cd9 ct9), sl9⟩) (c9 : PySem.W.codeIn K cd9 "_text_octets" = true) (k9 : PySem.W.keepIn K (.ref f_text_octets) = true)
    (a10 : PySem.W.nsIn K mainGlobals "_padded" = some (some (.ref f_padded)))
    (l10 : K.lookup f_padded = some ⟨oc10, od10, .func (PySem.W.fnOf "_padded" "_padded" (defArgs s__padded) (defBody s__padded) (defScope s__padded) .none kV10 dc10 pm10 an10 cd10 ct10), sl10⟩) (c10 : PySem.W.codeIn K cd10 "_padded" = true) (k10 : PySem.W.keepIn K (.ref f_padded) = true)
    (a11 : PySem.W.nsIn K mainGlobals "encode_message" = some (some (.ref fencode_message)))
    (l11 : K.lookup fencode_message = some ⟨oc11, od11, .func (PySem.W.fnOf "encode_message" "encode_message" (defArgs s_encode_message) (defBody s_encode_message) (defScope s_encode_message) .none kV11 dc11 pm11 an11 cd11 ct11), sl11⟩) (c11 : PySem.W.codeIn K cd11 "encode_message" = true) (k11 : PySem.W.keepIn K (.ref fencode_message) = true)
    (a12 : PySem.W.nsIn K mainGlobals "event_octets" = some (some (.ref fevent_octets)))
    (l12 : K.lookup fevent_octets = some ⟨oc12, od12, .func (PySem.W.fnOf "event_octets" "event_octets" (defArgs s_event_octets) (defBody s_event_octets) (defScope s_event_octets) .none kV12 dc12 pm12 an12 cd12 ct12), sl12⟩) (c12 : PySem.W.codeIn K cd12 "event_octets" = true) (k12 : PySem.W.keepIn K (.ref fevent_octets) = true)
    (a13 : PySem.W.nsIn K mainGlobals "_opcode_of" = some (some (.ref f_opcode_of)))
    (l13 : K.lookup f_opcode_of = some ⟨oc13, od13, .func (PySem.W.fnOf "_opcode_of" "_opcode_of" (defArgs s__opcode_of) (defBody s__opcode_of) (defScope s__opcode_of) .none kV13 dc13 pm13 an13 cd13 ct13), sl13⟩) (c13 : PySem.W.codeIn K cd13 "_opcode_of" = true) (k13 : PySem.W.keepIn K (.ref f_opcode_of) = true)
    (a14 : PySem.W.nsIn K mainGlobals "_law_cell" = some (some (.ref f_law_cell)))
    (l14 : K.lookup f_law_cell = some ⟨oc14, od14, .func (PySem.W.fnOf "_law_cell" "_law_cell" (defArgs s__law_cell) (defBody s__law_cell) (defScope s__law_cell) .none kV14 dc14 pm14 an14 cd14 ct14), sl14⟩) (c14 : PySem.W.codeIn K cd14 "_law_cell" = true) (k14 : PySem.W.keepIn K (.ref f_law_cell) = true)
    (a15 : PySem.W.nsIn K mainGlobals "_law_row" = some (some (.ref f_law_row)))
    (l15 : K.lookup f_law_row = some ⟨oc15, od15, .func (PySem.W.fnOf "_law_row" "_law_row" (defArgs s__law_row) (defBody s__law_row) (defScope s__law_row) .none kV15 dc15 pm15 an15 cd15 ct15), sl15⟩) (c15 : PySem.W.codeIn K cd15 "_law_row" = true) (k15 : PySem.W.keepIn K (.ref f_law_row) = true)
    (a16 : PySem.W.nsIn K mainGlobals "_law_hover" = some (some (.ref f_law_hover)))
    (l16 : K.lookup f_law_hover = some ⟨oc16, od16, .func (PySem.W.fnOf "_law_hover" "_law_hover" (defArgs s__law_hover) (defBody s__law_hover) (defScope s__law_hover) .none kV16 dc16 pm16 an16 cd16 ct16), sl16⟩) (c16 : PySem.W.codeIn K cd16 "_law_hover" = true) (k16 : PySem.W.keepIn K (.ref f_law_hover) = true)
    (a17 : PySem.W.nsIn K mainGlobals "_law_move" = some (some (.ref f_law_move)))
    (l17 : K.lookup f_law_move = some ⟨oc17, od17, .func (PySem.W.fnOf "_law_move" "_law_move" (defArgs s__law_move) (defBody s__law_move) (defScope s__law_move) .none kV17 dc17 pm17 an17 cd17 ct17), sl17⟩) (c17 : PySem.W.codeIn K cd17 "_law_move" = true) (k17 : PySem.W.keepIn K (.ref f_law_move) = true)
    (a18 : PySem.W.nsIn K mainGlobals "_law_leave" = some (some (.ref f_law_leave)))
    (l18 : K.lookup f_law_leave = some ⟨oc18, od18, .func (PySem.W.fnOf "_law_leave" "_law_leave" (defArgs s__law_leave) (defBody s__law_leave) (defScope s__law_leave) .none kV18 dc18 pm18 an18 cd18 ct18), sl18⟩) (c18 : PySem.W.codeIn K cd18 "_law_leave" = true) (k18 : PySem.W.keepIn K (.ref f_law_leave) = true)
    (a19 : PySem.W.nsIn K mainGlobals "law" = some (some (.ref flaw)))
    (l19 : K.lookup flaw = some ⟨oc19, od19, .func (PySem.W.fnOf "law" "law" (defArgs s_law) (defBody s_law) (defScope s_law) .none kV19 dc19 pm19 an19 cd19 ct19), sl19⟩) (c19 : PySem.W.codeIn K cd19 "law" = true) (k19 : PySem.W.keepIn K (.ref flaw) = true)
    (a20 : PySem.W.findIn K (.ref CCaptures) "__init__" = some (some (.ref fCaptures___init__)))
    (i20 : PySem.W.isFn K (.ref fCaptures___init__) = true)
    (l20 : K.lookup fCaptures___init__ = some ⟨oc20, od20, .func (PySem.W.fnOf "__init__" "Captures.__init__" (defArgs s_Captures___init__) (defBody s_Captures___init__) (defScope s_Captures___init__) .none kV20 dc20 pm20 an20 cd20 ct20), sl20⟩) (c20 : PySem.W.codeIn K cd20 "Captures.__init__" = true) (k20 : PySem.W.keepIn K (.ref fCaptures___init__) = true)
    (a21 : PySem.W.findIn K (.ref CCaptures) "forget" = some (some (.ref fCaptures_forget)))
    (i21 : PySem.W.isFn K (.ref fCaptures_forget) = true)
    (l21 : K.lookup fCaptures_forget = some ⟨oc21, od21, .func (PySem.W.fnOf "forget" "Captures.forget" (defArgs s_Captures_forget) (defBody s_Captures_forget) (defScope s_Captures_forget) .none kV21 dc21 pm21 an21 cd21 ct21), sl21⟩) (c21 : PySem.W.codeIn K cd21 "Captures.forget" = true) (k21 : PySem.W.keepIn K (.ref fCaptures_forget) = true)
    (a22 : PySem.W.findIn K (.ref CFetches) "__init__" = some (some (.ref fFetches___init__)))
    (i22 : PySem.W.isFn K (.ref fFetches___init__) = true)
    (l22 : K.lookup fFetches___init__ = some ⟨oc22, od22, .func (PySem.W.fnOf "__init__" "Fetches.__init__" (defArgs s_Fetches___init__) (defBody s_Fetches___init__) (defScope s_Fetches___init__) .none kV22 dc22 pm22 an22 cd22 ct22), sl22⟩) (c22 : PySem.W.codeIn K cd22 "Fetches.__init__" = true) (k22 : PySem.W.keepIn K (.ref fFetches___init__) = true)
    (a23 : PySem.W.findIn K (.ref CFetches) "forget" = some (some (.ref fFetches_forget)))
    (i23 : PySem.W.isFn K (.ref fFetches_forget) = true)
    (l23 : K.lookup fFetches_forget = some ⟨oc23, od23, .func (PySem.W.fnOf "forget" "Fetches.forget" (defArgs s_Fetches_forget) (defBody s_Fetches_forget) (defScope s_Fetches_forget) .none kV23 dc23 pm23 an23 cd23 ct23), sl23⟩) (c23 : PySem.W.codeIn K cd23 "Fetches.forget" = true) (k23 : PySem.W.keepIn K (.ref fFetches_forget) = true)
    (a24 : PySem.W.findIn K (.ref COffers) "__init__" = some (some (.ref fOffers___init__)))
    (i24 : PySem.W.isFn K (.ref fOffers___init__) = true)
    (l24 : K.lookup fOffers___init__ = some ⟨oc24, od24, .func (PySem.W.fnOf "__init__" "Offers.__init__" (defArgs s_Offers___init__) (defBody s_Offers___init__) (defScope s_Offers___init__) .none kV24 dc24 pm24 an24 cd24 ct24), sl24⟩) (c24 : PySem.W.codeIn K cd24 "Offers.__init__" = true) (k24 : PySem.W.keepIn K (.ref fOffers___init__) = true)
    (a25 : PySem.W.findIn K (.ref COffers) "bound" = some (some (.ref fOffers_bound)))
    (i25 : PySem.W.isFn K (.ref fOffers_bound) = true)
    (l25 : K.lookup fOffers_bound = some ⟨oc25, od25, .func (PySem.W.fnOf "bound" "Offers.bound" (defArgs s_Offers_bound) (defBody s_Offers_bound) (defScope s_Offers_bound) .none kV25 dc25 pm25 an25 cd25 ct25), sl25⟩) (c25 : PySem.W.codeIn K cd25 "Offers.bound" = true) (k25 : PySem.W.keepIn K (.ref fOffers_bound) = true)
    (a26 : PySem.W.findIn K (.ref COffers) "pane" = some (some (.ref fOffers_pane)))
    (i26 : PySem.W.isFn K (.ref fOffers_pane) = true)
    (l26 : K.lookup fOffers_pane = some ⟨oc26, od26, .func (PySem.W.fnOf "pane" "Offers.pane" (defArgs s_Offers_pane) (defBody s_Offers_pane) (defScope s_Offers_pane) .none kV26 dc26 pm26 an26 cd26 ct26), sl26⟩) (c26 : PySem.W.codeIn K cd26 "Offers.pane" = true) (k26 : PySem.W.keepIn K (.ref fOffers_pane) = true)
    (a27 : PySem.W.findIn K (.ref COffers) "forget" = some (some (.ref fOffers_forget)))
    (i27 : PySem.W.isFn K (.ref fOffers_forget) = true)
    (l27 : K.lookup fOffers_forget = some ⟨oc27, od27, .func (PySem.W.fnOf "forget" "Offers.forget" (defArgs s_Offers_forget) (defBody s_Offers_forget) (defScope s_Offers_forget) .none kV27 dc27 pm27 an27 cd27 ct27), sl27⟩) (c27 : PySem.W.codeIn K cd27 "Offers.forget" = true) (k27 : PySem.W.keepIn K (.ref fOffers_forget) = true)
    (a28 : PySem.W.findIn K (.ref COffers) "hovers" = some (some (.ref fOffers_hovers)))
    (i28 : PySem.W.isFn K (.ref fOffers_hovers) = true)
    (l28 : K.lookup fOffers_hovers = some ⟨oc28, od28, .func (PySem.W.fnOf "hovers" "Offers.hovers" (defArgs s_Offers_hovers) (defBody s_Offers_hovers) (defScope s_Offers_hovers) .none kV28 dc28 pm28 an28 cd28 ct28), sl28⟩) (c28 : PySem.W.codeIn K cd28 "Offers.hovers" = true) (k28 : PySem.W.keepIn K (.ref fOffers_hovers) = true)
    (a29 : PySem.W.findIn K (.ref COffers) "moves" = some (some (.ref fOffers_moves)))
    (i29 : PySem.W.isFn K (.ref fOffers_moves) = true)
    (l29 : K.lookup fOffers_moves = some ⟨oc29, od29, .func (PySem.W.fnOf "moves" "Offers.moves" (defArgs s_Offers_moves) (defBody s_Offers_moves) (defScope s_Offers_moves) .none kV29 dc29 pm29 an29 cd29 ct29), sl29⟩) (c29 : PySem.W.codeIn K cd29 "Offers.moves" = true) (k29 : PySem.W.keepIn K (.ref fOffers_moves) = true)
    (a30 : PySem.W.findIn K (.ref COffers) "leaves" = some (some (.ref fOffers_leaves)))
    (i30 : PySem.W.isFn K (.ref fOffers_leaves) = true)
    (l30 : K.lookup fOffers_leaves = some ⟨oc30, od30, .func (PySem.W.fnOf "leaves" "Offers.leaves" (defArgs s_Offers_leaves) (defBody s_Offers_leaves) (defScope s_Offers_leaves) .none kV30 dc30 pm30 an30 cd30 ct30), sl30⟩) (c30 : PySem.W.codeIn K cd30 "Offers.leaves" = true) (k30 : PySem.W.keepIn K (.ref fOffers_leaves) = true)
    (a31 : PySem.W.findIn K (.ref COffers) "dropped" = some (some (.ref fOffers_dropped)))
    (i31 : PySem.W.isFn K (.ref fOffers_dropped) = true)
    (l31 : K.lookup fOffers_dropped = some ⟨oc31, od31, .func (PySem.W.fnOf "dropped" "Offers.dropped" (defArgs s_Offers_dropped) (defBody s_Offers_dropped) (defScope s_Offers_dropped) .none kV31 dc31 pm31 an31 cd31 ct31), sl31⟩) (c31 : PySem.W.codeIn K cd31 "Offers.dropped" = true) (k31 : PySem.W.keepIn K (.ref fOffers_dropped) = true)
    (a32 : PySem.W.findIn K (.ref CSources) "__init__" = some (some (.ref fSources___init__)))
    (i32 : PySem.W.isFn K (.ref fSources___init__) = true)
    (l32 : K.lookup fSources___init__ = some ⟨oc32, od32, .func (PySem.W.fnOf "__init__" "Sources.__init__" (defArgs s_Sources___init__) (defBody s_Sources___init__) (defScope s_Sources___init__) .none kV32 dc32 pm32 an32 cd32 ct32), sl32⟩) (c32 : PySem.W.codeIn K cd32 "Sources.__init__" = true) (k32 : PySem.W.keepIn K (.ref fSources___init__) = true)
    (a33 : PySem.W.findIn K (.ref CSources) "forget" = some (some (.ref fSources_forget)))
    (i33 : PySem.W.isFn K (.ref fSources_forget) = true)
    (l33 : K.lookup fSources_forget = some ⟨oc33, od33, .func (PySem.W.fnOf "forget" "Sources.forget" (defArgs s_Sources_forget) (defBody s_Sources_forget) (defScope s_Sources_forget) .none kV33 dc33 pm33 an33 cd33 ct33), sl33⟩) (c33 : PySem.W.codeIn K cd33 "Sources.forget" = true) (k33 : PySem.W.keepIn K (.ref fSources_forget) = true)
    (a34 : PySem.W.findIn K (.ref CHoldings) "__init__" = some (some (.ref fHoldings___init__)))
    (i34 : PySem.W.isFn K (.ref fHoldings___init__) = true)
    (l34 : K.lookup fHoldings___init__ = some ⟨oc34, od34, .func (PySem.W.fnOf "__init__" "Holdings.__init__" (defArgs s_Holdings___init__) (defBody s_Holdings___init__) (defScope s_Holdings___init__) .none kV34 dc34 pm34 an34 cd34 ct34), sl34⟩) (c34 : PySem.W.codeIn K cd34 "Holdings.__init__" = true) (k34 : PySem.W.keepIn K (.ref fHoldings___init__) = true)
    (a35 : PySem.W.findIn K (.ref CHoldings) "bound" = some (some (.ref fHoldings_bound)))
    (i35 : PySem.W.isFn K (.ref fHoldings_bound) = true)
    (l35 : K.lookup fHoldings_bound = some ⟨oc35, od35, .func (PySem.W.fnOf "bound" "Holdings.bound" (defArgs s_Holdings_bound) (defBody s_Holdings_bound) (defScope s_Holdings_bound) .none kV35 dc35 pm35 an35 cd35 ct35), sl35⟩) (c35 : PySem.W.codeIn K cd35 "Holdings.bound" = true) (k35 : PySem.W.keepIn K (.ref fHoldings_bound) = true)
    (a36 : PySem.W.findIn K (.ref CHoldings) "ended" = some (some (.ref fHoldings_ended)))
    (i36 : PySem.W.isFn K (.ref fHoldings_ended) = true)
    (l36 : K.lookup fHoldings_ended = some ⟨oc36, od36, .func (PySem.W.fnOf "ended" "Holdings.ended" (defArgs s_Holdings_ended) (defBody s_Holdings_ended) (defScope s_Holdings_ended) .none kV36 dc36 pm36 an36 cd36 ct36), sl36⟩) (c36 : PySem.W.codeIn K cd36 "Holdings.ended" = true) (k36 : PySem.W.keepIn K (.ref fHoldings_ended) = true)
    (a37 : PySem.W.findIn K (.ref CHoldings) "pane" = some (some (.ref fHoldings_pane)))
    (i37 : PySem.W.isFn K (.ref fHoldings_pane) = true)
    (l37 : K.lookup fHoldings_pane = some ⟨oc37, od37, .func (PySem.W.fnOf "pane" "Holdings.pane" (defArgs s_Holdings_pane) (defBody s_Holdings_pane) (defScope s_Holdings_pane) .none kV37 dc37 pm37 an37 cd37 ct37), sl37⟩) (c37 : PySem.W.codeIn K cd37 "Holdings.pane" = true) (k37 : PySem.W.keepIn K (.ref fHoldings_pane) = true)
    (a38 : PySem.W.findIn K (.ref CHoldings) "hovers" = some (some (.ref fHoldings_hovers)))
    (i38 : PySem.W.isFn K (.ref fHoldings_hovers) = true)
    (l38 : K.lookup fHoldings_hovers = some ⟨oc38, od38, .func (PySem.W.fnOf "hovers" "Holdings.hovers" (defArgs s_Holdings_hovers) (defBody s_Holdings_hovers) (defScope s_Holdings_hovers) .none kV38 dc38 pm38 an38 cd38 ct38), sl38⟩) (c38 : PySem.W.codeIn K cd38 "Holdings.hovers" = true) (k38 : PySem.W.keepIn K (.ref fHoldings_hovers) = true)
    (a39 : PySem.W.findIn K (.ref CHoldings) "moves" = some (some (.ref fHoldings_moves)))
    (i39 : PySem.W.isFn K (.ref fHoldings_moves) = true)
    (l39 : K.lookup fHoldings_moves = some ⟨oc39, od39, .func (PySem.W.fnOf "moves" "Holdings.moves" (defArgs s_Holdings_moves) (defBody s_Holdings_moves) (defScope s_Holdings_moves) .none kV39 dc39 pm39 an39 cd39 ct39), sl39⟩) (c39 : PySem.W.codeIn K cd39 "Holdings.moves" = true) (k39 : PySem.W.keepIn K (.ref fHoldings_moves) = true)
    (a40 : PySem.W.findIn K (.ref CHoldings) "leaves" = some (some (.ref fHoldings_leaves)))
    (i40 : PySem.W.isFn K (.ref fHoldings_leaves) = true)
    (l40 : K.lookup fHoldings_leaves = some ⟨oc40, od40, .func (PySem.W.fnOf "leaves" "Holdings.leaves" (defArgs s_Holdings_leaves) (defBody s_Holdings_leaves) (defScope s_Holdings_leaves) .none kV40 dc40 pm40 an40 cd40 ct40), sl40⟩) (c40 : PySem.W.codeIn K cd40 "Holdings.leaves" = true) (k40 : PySem.W.keepIn K (.ref fHoldings_leaves) = true)
    (a41 : PySem.W.findIn K (.ref CHoldings) "dropped" = some (some (.ref fHoldings_dropped)))
    (i41 : PySem.W.isFn K (.ref fHoldings_dropped) = true)
    (l41 : K.lookup fHoldings_dropped = some ⟨oc41, od41, .func (PySem.W.fnOf "dropped" "Holdings.dropped" (defArgs s_Holdings_dropped) (defBody s_Holdings_dropped) (defScope s_Holdings_dropped) .none kV41 dc41 pm41 an41 cd41 ct41), sl41⟩) (c41 : PySem.W.codeIn K cd41 "Holdings.dropped" = true) (k41 : PySem.W.keepIn K (.ref fHoldings_dropped) = true)
    (a42 : PySem.W.findIn K (.ref CReply) "__init__" = some (some (.ref fReply___init__)))
    (i42 : PySem.W.isFn K (.ref fReply___init__) = true)
    (l42 : K.lookup fReply___init__ = some ⟨oc42, od42, .func (PySem.W.fnOf "__init__" "Reply.__init__" (defArgs s_Reply___init__) (defBody s_Reply___init__) (defScope s_Reply___init__) .none kV42 dc42 pm42 an42 cd42 ct42), sl42⟩) (c42 : PySem.W.codeIn K cd42 "Reply.__init__" = true) (k42 : PySem.W.keepIn K (.ref fReply___init__) = true)
    (a43 : PySem.W.findIn K (.ref CReply) "tell" = some (some (.ref fReply_tell)))
    (i43 : PySem.W.isFn K (.ref fReply_tell) = true)
    (l43 : K.lookup fReply_tell = some ⟨oc43, od43, .func (PySem.W.fnOf "tell" "Reply.tell" (defArgs s_Reply_tell) (defBody s_Reply_tell) (defScope s_Reply_tell) .none kV43 dc43 pm43 an43 cd43 ct43), sl43⟩) (c43 : PySem.W.codeIn K cd43 "Reply.tell" = true) (k43 : PySem.W.keepIn K (.ref fReply_tell) = true)
    (z_all : PySem.W.nsIn K mainGlobals "all" = some none)
    (z_bool : PySem.W.nsIn K mainGlobals "bool" = some none)
    (z_int : PySem.W.nsIn K mainGlobals "int" = some none)
    (z_isinstance : PySem.W.nsIn K mainGlobals "isinstance" = some none)
    (z_len : PySem.W.nsIn K mainGlobals "len" = some none)
    (z_list : PySem.W.nsIn K mainGlobals "list" = some none)
    (z_min : PySem.W.nsIn K mainGlobals "min" = some none)
    (z_ord : PySem.W.nsIn K mainGlobals "ord" = some none)
    (z_range : PySem.W.nsIn K mainGlobals "range" = some none)
    (z_str : PySem.W.nsIn K mainGlobals "str" = some none)
    (z_tuple : PySem.W.nsIn K mainGlobals "tuple" = some none)
    (z_zip : PySem.W.nsIn K mainGlobals "zip" = some none)
    (q_GREATEST_NUMBER : PySem.W.nsIn K mainGlobals "GREATEST_NUMBER" = some (some (.int (4294967295) tGREATEST_NUMBER)))
    (q_LEAST_INT : PySem.W.nsIn K mainGlobals "LEAST_INT" = some (some (.int (-2147483648) tLEAST_INT)))
    (q_GREATEST_INT : PySem.W.nsIn K mainGlobals "GREATEST_INT" = some (some (.int (2147483647) tGREATEST_INT)))
    (q_LONGEST_TEXT_fields : PySem.W.nsIn K mainGlobals "LONGEST_TEXT_fields" = some (some (.int (1000) tLONGEST_TEXT_fields)))
    (q_MOST_OCTETS_fields : PySem.W.nsIn K mainGlobals "MOST_OCTETS_fields" = some (some (.int (16384) tMOST_OCTETS_fields)))
    (q__FIRST_CODE : PySem.W.nsIn K mainGlobals "_FIRST_CODE" = some (some (.int (32) t_FIRST_CODE)))
    (q__LAST_CODE : PySem.W.nsIn K mainGlobals "_LAST_CODE" = some (some (.int (126) t_LAST_CODE)))
    (q__PERCENT_CODE : PySem.W.nsIn K mainGlobals "_PERCENT_CODE" = some (some (.int (37) t_PERCENT_CODE)))
    (q_HEADER_SIZE : PySem.W.nsIn K mainGlobals "HEADER_SIZE" = some (some (.int (8) tHEADER_SIZE)))
    (q_GREATEST_SIZE : PySem.W.nsIn K mainGlobals "GREATEST_SIZE" = some (some (.int (20480) tGREATEST_SIZE)))
    (q_GREATEST_OPCODE : PySem.W.nsIn K mainGlobals "GREATEST_OPCODE" = some (some (.int (65535) tGREATEST_OPCODE)))
    (q_MOST_ARGUMENTS : PySem.W.nsIn K mainGlobals "MOST_ARGUMENTS" = some (some (.int (20) tMOST_ARGUMENTS)))
    (q__EVENTS : PySem.W.nsIn K mainGlobals "_EVENTS" = some (some (.ref a_EVENTS)))
    (dl_EVENTS : K.lookup a_EVENTS = some ⟨.type "dict", none, .dict es_EVENTS nn_EVENTS, #[]⟩) (dk_EVENTS : PySem.W.KeysLit w.params es_EVENTS.toList)
    (de_EVENTS_k0 : PySem.W.nsIn K a_EVENTS "display" = some (some (.ref a_EVENTS_k0)))
    (de_EVENTS_k1 : PySem.W.nsIn K a_EVENTS "callback" = some (some (.ref a_EVENTS_k1)))
    (de_EVENTS_k2 : PySem.W.nsIn K a_EVENTS "registry" = some (some (.ref a_EVENTS_k2)))
    (de_EVENTS_k3 : PySem.W.nsIn K a_EVENTS "buffer" = some (some (.ref a_EVENTS_k3)))
    (de_EVENTS_k4 : PySem.W.nsIn K a_EVENTS "output" = some (some (.ref a_EVENTS_k4)))
    (de_EVENTS_k5 : PySem.W.nsIn K a_EVENTS "window" = some (some (.ref a_EVENTS_k5)))
    (de_EVENTS_k6 : PySem.W.nsIn K a_EVENTS "popup" = some (some (.ref a_EVENTS_k6)))
    (de_EVENTS_k7 : PySem.W.nsIn K a_EVENTS "pointer" = some (some (.ref a_EVENTS_k7)))
    (de_EVENTS_k8 : PySem.W.nsIn K a_EVENTS "keyboard" = some (some (.ref a_EVENTS_k8)))
    (de_EVENTS_k9 : PySem.W.nsIn K a_EVENTS "transfer" = some (some (.ref a_EVENTS_k9)))
    (de_EVENTS_k10 : PySem.W.nsIn K a_EVENTS "offer" = some (some (.ref a_EVENTS_k10)))
    (de_EVENTS_k11 : PySem.W.nsIn K a_EVENTS "capture" = some (some (.ref a_EVENTS_k11)))
    (de_EVENTS_k12 : PySem.W.nsIn K a_EVENTS "fetch" = some (some (.ref a_EVENTS_k12)))
    (de_EVENTS_k13 : PySem.W.nsIn K a_EVENTS "watch" = some (some (.ref a_EVENTS_k13)))
    (w_EVENTS_k0 : K.lookup a_EVENTS_k0 = some ⟨.type "tuple", ow_EVENTS_k0, .seq #[.ref a_EVENTS_k0_0, .ref a_EVENTS_k0_1] nw_EVENTS_k0, sw_EVENTS_k0⟩)
    (w_EVENTS_k0_0 : K.lookup a_EVENTS_k0_0 = some ⟨.type "tuple", ow_EVENTS_k0_0, .seq #[.str "error" tk_EVENTS_k0_0_0, .ref a_EVENTS_k0_0_1] nw_EVENTS_k0_0, sw_EVENTS_k0_0⟩)
    (w_EVENTS_k0_0_1 : K.lookup a_EVENTS_k0_0_1 = some ⟨.type "tuple", ow_EVENTS_k0_0_1, .seq #[.str "uint" tk_EVENTS_k0_0_1_0, .str "uint" tk_EVENTS_k0_0_1_1, .str "text" tk_EVENTS_k0_0_1_2] nw_EVENTS_k0_0_1, sw_EVENTS_k0_0_1⟩)
    (w_EVENTS_k0_1 : K.lookup a_EVENTS_k0_1 = some ⟨.type "tuple", ow_EVENTS_k0_1, .seq #[.str "removed" tk_EVENTS_k0_1_0, .ref a_EVENTS_k0_1_1] nw_EVENTS_k0_1, sw_EVENTS_k0_1⟩)
    (w_EVENTS_k0_1_1 : K.lookup a_EVENTS_k0_1_1 = some ⟨.type "tuple", ow_EVENTS_k0_1_1, .seq #[.str "uint" tk_EVENTS_k0_1_1_0] nw_EVENTS_k0_1_1, sw_EVENTS_k0_1_1⟩)
    (w_EVENTS_k1 : K.lookup a_EVENTS_k1 = some ⟨.type "tuple", ow_EVENTS_k1, .seq #[.ref a_EVENTS_k1_0] nw_EVENTS_k1, sw_EVENTS_k1⟩)
    (w_EVENTS_k1_0 : K.lookup a_EVENTS_k1_0 = some ⟨.type "tuple", ow_EVENTS_k1_0, .seq #[.str "done" tk_EVENTS_k1_0_0, .ref a_EVENTS_k1_0_1] nw_EVENTS_k1_0, sw_EVENTS_k1_0⟩)
    (w_EVENTS_k1_0_1 : K.lookup a_EVENTS_k1_0_1 = some ⟨.type "tuple", ow_EVENTS_k1_0_1, .seq #[.str "uint" tk_EVENTS_k1_0_1_0] nw_EVENTS_k1_0_1, sw_EVENTS_k1_0_1⟩)
    (w_EVENTS_k2 : K.lookup a_EVENTS_k2 = some ⟨.type "tuple", ow_EVENTS_k2, .seq #[.ref a_EVENTS_k2_0, .ref a_EVENTS_k2_1] nw_EVENTS_k2, sw_EVENTS_k2⟩)
    (w_EVENTS_k2_0 : K.lookup a_EVENTS_k2_0 = some ⟨.type "tuple", ow_EVENTS_k2_0, .seq #[.str "there" tk_EVENTS_k2_0_0, .ref a_EVENTS_k2_0_1] nw_EVENTS_k2_0, sw_EVENTS_k2_0⟩)
    (w_EVENTS_k2_0_1 : K.lookup a_EVENTS_k2_0_1 = some ⟨.type "tuple", ow_EVENTS_k2_0_1, .seq #[.str "uint" tk_EVENTS_k2_0_1_0, .str "text" tk_EVENTS_k2_0_1_1] nw_EVENTS_k2_0_1, sw_EVENTS_k2_0_1⟩)
    (w_EVENTS_k2_1 : K.lookup a_EVENTS_k2_1 = some ⟨.type "tuple", ow_EVENTS_k2_1, .seq #[.str "gone" tk_EVENTS_k2_1_0, .ref a_EVENTS_k2_1_1] nw_EVENTS_k2_1, sw_EVENTS_k2_1⟩)
    (w_EVENTS_k2_1_1 : K.lookup a_EVENTS_k2_1_1 = some ⟨.type "tuple", ow_EVENTS_k2_1_1, .seq #[.str "uint" tk_EVENTS_k2_1_1_0] nw_EVENTS_k2_1_1, sw_EVENTS_k2_1_1⟩)
    (w_EVENTS_k3 : K.lookup a_EVENTS_k3 = some ⟨.type "tuple", ow_EVENTS_k3, .seq #[.ref a_EVENTS_k3_0] nw_EVENTS_k3, sw_EVENTS_k3⟩)
    (w_EVENTS_k3_0 : K.lookup a_EVENTS_k3_0 = some ⟨.type "tuple", ow_EVENTS_k3_0, .seq #[.str "release" tk_EVENTS_k3_0_0, .ref a_EVENTS_k3_0_1] nw_EVENTS_k3_0, sw_EVENTS_k3_0⟩)
    (w_EVENTS_k3_0_1 : K.lookup a_EVENTS_k3_0_1 = some ⟨.type "tuple", ow_EVENTS_k3_0_1, .seq #[] nw_EVENTS_k3_0_1, sw_EVENTS_k3_0_1⟩)
    (w_EVENTS_k4 : K.lookup a_EVENTS_k4 = some ⟨.type "tuple", ow_EVENTS_k4, .seq #[.ref a_EVENTS_k4_0] nw_EVENTS_k4, sw_EVENTS_k4⟩)
    (w_EVENTS_k4_0 : K.lookup a_EVENTS_k4_0 = some ⟨.type "tuple", ow_EVENTS_k4_0, .seq #[.str "size" tk_EVENTS_k4_0_0, .ref a_EVENTS_k4_0_1] nw_EVENTS_k4_0, sw_EVENTS_k4_0⟩)
    (w_EVENTS_k4_0_1 : K.lookup a_EVENTS_k4_0_1 = some ⟨.type "tuple", ow_EVENTS_k4_0_1, .seq #[.str "uint" tk_EVENTS_k4_0_1_0, .str "uint" tk_EVENTS_k4_0_1_1, .str "uint" tk_EVENTS_k4_0_1_2, .str "uint" tk_EVENTS_k4_0_1_3] nw_EVENTS_k4_0_1, sw_EVENTS_k4_0_1⟩)
    (w_EVENTS_k5 : K.lookup a_EVENTS_k5 = some ⟨.type "tuple", ow_EVENTS_k5, .seq #[.ref a_EVENTS_k5_0, .ref a_EVENTS_k5_1, .ref a_EVENTS_k5_2, .ref a_EVENTS_k5_3] nw_EVENTS_k5, sw_EVENTS_k5⟩)
    (w_EVENTS_k5_0 : K.lookup a_EVENTS_k5_0 = some ⟨.type "tuple", ow_EVENTS_k5_0, .seq #[.str "configure" tk_EVENTS_k5_0_0, .ref a_EVENTS_k5_0_1] nw_EVENTS_k5_0, sw_EVENTS_k5_0⟩)
    (w_EVENTS_k5_0_1 : K.lookup a_EVENTS_k5_0_1 = some ⟨.type "tuple", ow_EVENTS_k5_0_1, .seq #[.str "uint" tk_EVENTS_k5_0_1_0, .str "uint" tk_EVENTS_k5_0_1_1, .str "uint" tk_EVENTS_k5_0_1_2, .str "uint" tk_EVENTS_k5_0_1_3] nw_EVENTS_k5_0_1, sw_EVENTS_k5_0_1⟩)
    (w_EVENTS_k5_1 : K.lookup a_EVENTS_k5_1 = some ⟨.type "tuple", ow_EVENTS_k5_1, .seq #[.str "close" tk_EVENTS_k5_1_0, .ref a_EVENTS_k5_1_1] nw_EVENTS_k5_1, sw_EVENTS_k5_1⟩)
    (w_EVENTS_k5_1_1 : K.lookup a_EVENTS_k5_1_1 = some ⟨.type "tuple", ow_EVENTS_k5_1_1, .seq #[] nw_EVENTS_k5_1_1, sw_EVENTS_k5_1_1⟩)
    (w_EVENTS_k5_2 : K.lookup a_EVENTS_k5_2 = some ⟨.type "tuple", ow_EVENTS_k5_2, .seq #[.str "output" tk_EVENTS_k5_2_0, .ref a_EVENTS_k5_2_1] nw_EVENTS_k5_2, sw_EVENTS_k5_2⟩)
    (w_EVENTS_k5_2_1 : K.lookup a_EVENTS_k5_2_1 = some ⟨.type "tuple", ow_EVENTS_k5_2_1, .seq #[.str "uint" tk_EVENTS_k5_2_1_0] nw_EVENTS_k5_2_1, sw_EVENTS_k5_2_1⟩)
    (w_EVENTS_k5_3 : K.lookup a_EVENTS_k5_3 = some ⟨.type "tuple", ow_EVENTS_k5_3, .seq #[.str "left" tk_EVENTS_k5_3_0, .ref a_EVENTS_k5_3_1] nw_EVENTS_k5_3, sw_EVENTS_k5_3⟩)
    (w_EVENTS_k5_3_1 : K.lookup a_EVENTS_k5_3_1 = some ⟨.type "tuple", ow_EVENTS_k5_3_1, .seq #[.str "uint" tk_EVENTS_k5_3_1_0] nw_EVENTS_k5_3_1, sw_EVENTS_k5_3_1⟩)
    (w_EVENTS_k6 : K.lookup a_EVENTS_k6 = some ⟨.type "tuple", ow_EVENTS_k6, .seq #[.ref a_EVENTS_k6_0, .ref a_EVENTS_k6_1] nw_EVENTS_k6, sw_EVENTS_k6⟩)
    (w_EVENTS_k6_0 : K.lookup a_EVENTS_k6_0 = some ⟨.type "tuple", ow_EVENTS_k6_0, .seq #[.str "placed" tk_EVENTS_k6_0_0, .ref a_EVENTS_k6_0_1] nw_EVENTS_k6_0, sw_EVENTS_k6_0⟩)
    (w_EVENTS_k6_0_1 : K.lookup a_EVENTS_k6_0_1 = some ⟨.type "tuple", ow_EVENTS_k6_0_1, .seq #[.str "int" tk_EVENTS_k6_0_1_0, .str "int" tk_EVENTS_k6_0_1_1, .str "uint" tk_EVENTS_k6_0_1_2, .str "uint" tk_EVENTS_k6_0_1_3] nw_EVENTS_k6_0_1, sw_EVENTS_k6_0_1⟩)
    (w_EVENTS_k6_1 : K.lookup a_EVENTS_k6_1 = some ⟨.type "tuple", ow_EVENTS_k6_1, .seq #[.str "done" tk_EVENTS_k6_1_0, .ref a_EVENTS_k6_1_1] nw_EVENTS_k6_1, sw_EVENTS_k6_1⟩)
    (w_EVENTS_k6_1_1 : K.lookup a_EVENTS_k6_1_1 = some ⟨.type "tuple", ow_EVENTS_k6_1_1, .seq #[] nw_EVENTS_k6_1_1, sw_EVENTS_k6_1_1⟩)
    (w_EVENTS_k7 : K.lookup a_EVENTS_k7 = some ⟨.type "tuple", ow_EVENTS_k7, .seq #[.ref a_EVENTS_k7_0, .ref a_EVENTS_k7_1, .ref a_EVENTS_k7_2, .ref a_EVENTS_k7_3, .ref a_EVENTS_k7_4] nw_EVENTS_k7, sw_EVENTS_k7⟩)
    (w_EVENTS_k7_0 : K.lookup a_EVENTS_k7_0 = some ⟨.type "tuple", ow_EVENTS_k7_0, .seq #[.str "enter" tk_EVENTS_k7_0_0, .ref a_EVENTS_k7_0_1] nw_EVENTS_k7_0, sw_EVENTS_k7_0⟩)
    (w_EVENTS_k7_0_1 : K.lookup a_EVENTS_k7_0_1 = some ⟨.type "tuple", ow_EVENTS_k7_0_1, .seq #[.str "object" tk_EVENTS_k7_0_1_0, .str "int" tk_EVENTS_k7_0_1_1, .str "int" tk_EVENTS_k7_0_1_2] nw_EVENTS_k7_0_1, sw_EVENTS_k7_0_1⟩)
    (w_EVENTS_k7_1 : K.lookup a_EVENTS_k7_1 = some ⟨.type "tuple", ow_EVENTS_k7_1, .seq #[.str "leave" tk_EVENTS_k7_1_0, .ref a_EVENTS_k7_1_1] nw_EVENTS_k7_1, sw_EVENTS_k7_1⟩)
    (w_EVENTS_k7_1_1 : K.lookup a_EVENTS_k7_1_1 = some ⟨.type "tuple", ow_EVENTS_k7_1_1, .seq #[.str "object" tk_EVENTS_k7_1_1_0] nw_EVENTS_k7_1_1, sw_EVENTS_k7_1_1⟩)
    (w_EVENTS_k7_2 : K.lookup a_EVENTS_k7_2 = some ⟨.type "tuple", ow_EVENTS_k7_2, .seq #[.str "motion" tk_EVENTS_k7_2_0, .ref a_EVENTS_k7_2_1] nw_EVENTS_k7_2, sw_EVENTS_k7_2⟩)
    (w_EVENTS_k7_2_1 : K.lookup a_EVENTS_k7_2_1 = some ⟨.type "tuple", ow_EVENTS_k7_2_1, .seq #[.str "int" tk_EVENTS_k7_2_1_0, .str "int" tk_EVENTS_k7_2_1_1, .str "uint" tk_EVENTS_k7_2_1_2] nw_EVENTS_k7_2_1, sw_EVENTS_k7_2_1⟩)
    (w_EVENTS_k7_3 : K.lookup a_EVENTS_k7_3 = some ⟨.type "tuple", ow_EVENTS_k7_3, .seq #[.str "button" tk_EVENTS_k7_3_0, .ref a_EVENTS_k7_3_1] nw_EVENTS_k7_3, sw_EVENTS_k7_3⟩)
    (w_EVENTS_k7_3_1 : K.lookup a_EVENTS_k7_3_1 = some ⟨.type "tuple", ow_EVENTS_k7_3_1, .seq #[.str "uint" tk_EVENTS_k7_3_1_0, .str "uint" tk_EVENTS_k7_3_1_1, .str "uint" tk_EVENTS_k7_3_1_2, .str "uint" tk_EVENTS_k7_3_1_3] nw_EVENTS_k7_3_1, sw_EVENTS_k7_3_1⟩)
    (w_EVENTS_k7_4 : K.lookup a_EVENTS_k7_4 = some ⟨.type "tuple", ow_EVENTS_k7_4, .seq #[.str "axis" tk_EVENTS_k7_4_0, .ref a_EVENTS_k7_4_1] nw_EVENTS_k7_4, sw_EVENTS_k7_4⟩)
    (w_EVENTS_k7_4_1 : K.lookup a_EVENTS_k7_4_1 = some ⟨.type "tuple", ow_EVENTS_k7_4_1, .seq #[.str "int" tk_EVENTS_k7_4_1_0, .str "int" tk_EVENTS_k7_4_1_1, .str "uint" tk_EVENTS_k7_4_1_2] nw_EVENTS_k7_4_1, sw_EVENTS_k7_4_1⟩)
    (w_EVENTS_k8 : K.lookup a_EVENTS_k8 = some ⟨.type "tuple", ow_EVENTS_k8, .seq #[.ref a_EVENTS_k8_0, .ref a_EVENTS_k8_1, .ref a_EVENTS_k8_2, .ref a_EVENTS_k8_3, .ref a_EVENTS_k8_4] nw_EVENTS_k8, sw_EVENTS_k8⟩)
    (w_EVENTS_k8_0 : K.lookup a_EVENTS_k8_0 = some ⟨.type "tuple", ow_EVENTS_k8_0, .seq #[.str "keymap" tk_EVENTS_k8_0_0, .ref a_EVENTS_k8_0_1] nw_EVENTS_k8_0, sw_EVENTS_k8_0⟩)
    (w_EVENTS_k8_0_1 : K.lookup a_EVENTS_k8_0_1 = some ⟨.type "tuple", ow_EVENTS_k8_0_1, .seq #[.str "text" tk_EVENTS_k8_0_1_0] nw_EVENTS_k8_0_1, sw_EVENTS_k8_0_1⟩)
    (w_EVENTS_k8_1 : K.lookup a_EVENTS_k8_1 = some ⟨.type "tuple", ow_EVENTS_k8_1, .seq #[.str "enter" tk_EVENTS_k8_1_0, .ref a_EVENTS_k8_1_1] nw_EVENTS_k8_1, sw_EVENTS_k8_1⟩)
    (w_EVENTS_k8_1_1 : K.lookup a_EVENTS_k8_1_1 = some ⟨.type "tuple", ow_EVENTS_k8_1_1, .seq #[.str "object" tk_EVENTS_k8_1_1_0] nw_EVENTS_k8_1_1, sw_EVENTS_k8_1_1⟩)
    (w_EVENTS_k8_2 : K.lookup a_EVENTS_k8_2 = some ⟨.type "tuple", ow_EVENTS_k8_2, .seq #[.str "leave" tk_EVENTS_k8_2_0, .ref a_EVENTS_k8_2_1] nw_EVENTS_k8_2, sw_EVENTS_k8_2⟩)
    (w_EVENTS_k8_2_1 : K.lookup a_EVENTS_k8_2_1 = some ⟨.type "tuple", ow_EVENTS_k8_2_1, .seq #[.str "object" tk_EVENTS_k8_2_1_0] nw_EVENTS_k8_2_1, sw_EVENTS_k8_2_1⟩)
    (w_EVENTS_k8_3 : K.lookup a_EVENTS_k8_3 = some ⟨.type "tuple", ow_EVENTS_k8_3, .seq #[.str "key" tk_EVENTS_k8_3_0, .ref a_EVENTS_k8_3_1] nw_EVENTS_k8_3, sw_EVENTS_k8_3⟩)
    (w_EVENTS_k8_3_1 : K.lookup a_EVENTS_k8_3_1 = some ⟨.type "tuple", ow_EVENTS_k8_3_1, .seq #[.str "uint" tk_EVENTS_k8_3_1_0, .str "uint" tk_EVENTS_k8_3_1_1, .str "uint" tk_EVENTS_k8_3_1_2, .str "uint" tk_EVENTS_k8_3_1_3] nw_EVENTS_k8_3_1, sw_EVENTS_k8_3_1⟩)
    (w_EVENTS_k8_4 : K.lookup a_EVENTS_k8_4 = some ⟨.type "tuple", ow_EVENTS_k8_4, .seq #[.str "symbol" tk_EVENTS_k8_4_0, .ref a_EVENTS_k8_4_1] nw_EVENTS_k8_4, sw_EVENTS_k8_4⟩)
    (w_EVENTS_k8_4_1 : K.lookup a_EVENTS_k8_4_1 = some ⟨.type "tuple", ow_EVENTS_k8_4_1, .seq #[.str "text" tk_EVENTS_k8_4_1_0, .str "text" tk_EVENTS_k8_4_1_1, .str "uint" tk_EVENTS_k8_4_1_2] nw_EVENTS_k8_4_1, sw_EVENTS_k8_4_1⟩)
    (w_EVENTS_k9 : K.lookup a_EVENTS_k9 = some ⟨.type "tuple", ow_EVENTS_k9, .seq #[.ref a_EVENTS_k9_0, .ref a_EVENTS_k9_1, .ref a_EVENTS_k9_2, .ref a_EVENTS_k9_3, .ref a_EVENTS_k9_4, .ref a_EVENTS_k9_5] nw_EVENTS_k9, sw_EVENTS_k9⟩)
    (w_EVENTS_k9_0 : K.lookup a_EVENTS_k9_0 = some ⟨.type "tuple", ow_EVENTS_k9_0, .seq #[.str "offer" tk_EVENTS_k9_0_0, .ref a_EVENTS_k9_0_1] nw_EVENTS_k9_0, sw_EVENTS_k9_0⟩)
    (w_EVENTS_k9_0_1 : K.lookup a_EVENTS_k9_0_1 = some ⟨.type "tuple", ow_EVENTS_k9_0_1, .seq #[.str "new" tk_EVENTS_k9_0_1_0, .str "uint" tk_EVENTS_k9_0_1_1] nw_EVENTS_k9_0_1, sw_EVENTS_k9_0_1⟩)
    (w_EVENTS_k9_1 : K.lookup a_EVENTS_k9_1 = some ⟨.type "tuple", ow_EVENTS_k9_1, .seq #[.str "hover" tk_EVENTS_k9_1_0, .ref a_EVENTS_k9_1_1] nw_EVENTS_k9_1, sw_EVENTS_k9_1⟩)
    (w_EVENTS_k9_1_1 : K.lookup a_EVENTS_k9_1_1 = some ⟨.type "tuple", ow_EVENTS_k9_1_1, .seq #[.str "object" tk_EVENTS_k9_1_1_0, .str "int" tk_EVENTS_k9_1_1_1, .str "int" tk_EVENTS_k9_1_1_2] nw_EVENTS_k9_1_1, sw_EVENTS_k9_1_1⟩)
    (w_EVENTS_k9_2 : K.lookup a_EVENTS_k9_2 = some ⟨.type "tuple", ow_EVENTS_k9_2, .seq #[.str "hover_kind" tk_EVENTS_k9_2_0, .ref a_EVENTS_k9_2_1] nw_EVENTS_k9_2, sw_EVENTS_k9_2⟩)
    (w_EVENTS_k9_2_1 : K.lookup a_EVENTS_k9_2_1 = some ⟨.type "tuple", ow_EVENTS_k9_2_1, .seq #[.str "text" tk_EVENTS_k9_2_1_0] nw_EVENTS_k9_2_1, sw_EVENTS_k9_2_1⟩)
    (w_EVENTS_k9_3 : K.lookup a_EVENTS_k9_3 = some ⟨.type "tuple", ow_EVENTS_k9_3, .seq #[.str "moved" tk_EVENTS_k9_3_0, .ref a_EVENTS_k9_3_1] nw_EVENTS_k9_3, sw_EVENTS_k9_3⟩)
    (w_EVENTS_k9_3_1 : K.lookup a_EVENTS_k9_3_1 = some ⟨.type "tuple", ow_EVENTS_k9_3_1, .seq #[.str "uint" tk_EVENTS_k9_3_1_0, .str "int" tk_EVENTS_k9_3_1_1, .str "int" tk_EVENTS_k9_3_1_2] nw_EVENTS_k9_3_1, sw_EVENTS_k9_3_1⟩)
    (w_EVENTS_k9_4 : K.lookup a_EVENTS_k9_4 = some ⟨.type "tuple", ow_EVENTS_k9_4, .seq #[.str "away" tk_EVENTS_k9_4_0, .ref a_EVENTS_k9_4_1] nw_EVENTS_k9_4, sw_EVENTS_k9_4⟩)
    (w_EVENTS_k9_4_1 : K.lookup a_EVENTS_k9_4_1 = some ⟨.type "tuple", ow_EVENTS_k9_4_1, .seq #[] nw_EVENTS_k9_4_1, sw_EVENTS_k9_4_1⟩)
    (w_EVENTS_k9_5 : K.lookup a_EVENTS_k9_5 = some ⟨.type "tuple", ow_EVENTS_k9_5, .seq #[.str "ended" tk_EVENTS_k9_5_0, .ref a_EVENTS_k9_5_1] nw_EVENTS_k9_5, sw_EVENTS_k9_5⟩)
    (w_EVENTS_k9_5_1 : K.lookup a_EVENTS_k9_5_1 = some ⟨.type "tuple", ow_EVENTS_k9_5_1, .seq #[] nw_EVENTS_k9_5_1, sw_EVENTS_k9_5_1⟩)
    (w_EVENTS_k10 : K.lookup a_EVENTS_k10 = some ⟨.type "tuple", ow_EVENTS_k10, .seq #[.ref a_EVENTS_k10_0, .ref a_EVENTS_k10_1] nw_EVENTS_k10, sw_EVENTS_k10⟩)
    (w_EVENTS_k10_0 : K.lookup a_EVENTS_k10_0 = some ⟨.type "tuple", ow_EVENTS_k10_0, .seq #[.str "kind" tk_EVENTS_k10_0_0, .ref a_EVENTS_k10_0_1] nw_EVENTS_k10_0, sw_EVENTS_k10_0⟩)
    (w_EVENTS_k10_0_1 : K.lookup a_EVENTS_k10_0_1 = some ⟨.type "tuple", ow_EVENTS_k10_0_1, .seq #[.str "text" tk_EVENTS_k10_0_1_0, .str "uint" tk_EVENTS_k10_0_1_1] nw_EVENTS_k10_0_1, sw_EVENTS_k10_0_1⟩)
    (w_EVENTS_k10_1 : K.lookup a_EVENTS_k10_1 = some ⟨.type "tuple", ow_EVENTS_k10_1, .seq #[.str "part" tk_EVENTS_k10_1_0, .ref a_EVENTS_k10_1_1] nw_EVENTS_k10_1, sw_EVENTS_k10_1⟩)
    (w_EVENTS_k10_1_1 : K.lookup a_EVENTS_k10_1_1 = some ⟨.type "tuple", ow_EVENTS_k10_1_1, .seq #[.str "text" tk_EVENTS_k10_1_1_0, .str "uint" tk_EVENTS_k10_1_1_1, .str "octets" tk_EVENTS_k10_1_1_2] nw_EVENTS_k10_1_1, sw_EVENTS_k10_1_1⟩)
    (w_EVENTS_k11 : K.lookup a_EVENTS_k11 = some ⟨.type "tuple", ow_EVENTS_k11, .seq #[.ref a_EVENTS_k11_0, .ref a_EVENTS_k11_1, .ref a_EVENTS_k11_2] nw_EVENTS_k11, sw_EVENTS_k11⟩)
    (w_EVENTS_k11_0 : K.lookup a_EVENTS_k11_0 = some ⟨.type "tuple", ow_EVENTS_k11_0, .seq #[.str "allowed" tk_EVENTS_k11_0_0, .ref a_EVENTS_k11_0_1] nw_EVENTS_k11_0, sw_EVENTS_k11_0⟩)
    (w_EVENTS_k11_0_1 : K.lookup a_EVENTS_k11_0_1 = some ⟨.type "tuple", ow_EVENTS_k11_0_1, .seq #[.str "uint" tk_EVENTS_k11_0_1_0, .str "uint" tk_EVENTS_k11_0_1_1] nw_EVENTS_k11_0_1, sw_EVENTS_k11_0_1⟩)
    (w_EVENTS_k11_1 : K.lookup a_EVENTS_k11_1 = some ⟨.type "tuple", ow_EVENTS_k11_1, .seq #[.str "refused" tk_EVENTS_k11_1_0, .ref a_EVENTS_k11_1_1] nw_EVENTS_k11_1, sw_EVENTS_k11_1⟩)
    (w_EVENTS_k11_1_1 : K.lookup a_EVENTS_k11_1_1 = some ⟨.type "tuple", ow_EVENTS_k11_1_1, .seq #[] nw_EVENTS_k11_1_1, sw_EVENTS_k11_1_1⟩)
    (w_EVENTS_k11_2 : K.lookup a_EVENTS_k11_2 = some ⟨.type "tuple", ow_EVENTS_k11_2, .seq #[.str "rows" tk_EVENTS_k11_2_0, .ref a_EVENTS_k11_2_1] nw_EVENTS_k11_2, sw_EVENTS_k11_2⟩)
    (w_EVENTS_k11_2_1 : K.lookup a_EVENTS_k11_2_1 = some ⟨.type "tuple", ow_EVENTS_k11_2_1, .seq #[.str "uint" tk_EVENTS_k11_2_1_0, .str "octets" tk_EVENTS_k11_2_1_1] nw_EVENTS_k11_2_1, sw_EVENTS_k11_2_1⟩)
    (w_EVENTS_k12 : K.lookup a_EVENTS_k12 = some ⟨.type "tuple", ow_EVENTS_k12, .seq #[.ref a_EVENTS_k12_0, .ref a_EVENTS_k12_1, .ref a_EVENTS_k12_2] nw_EVENTS_k12, sw_EVENTS_k12⟩)
    (w_EVENTS_k12_0 : K.lookup a_EVENTS_k12_0 = some ⟨.type "tuple", ow_EVENTS_k12_0, .seq #[.str "changed" tk_EVENTS_k12_0_0, .ref a_EVENTS_k12_0_1] nw_EVENTS_k12_0, sw_EVENTS_k12_0⟩)
    (w_EVENTS_k12_0_1 : K.lookup a_EVENTS_k12_0_1 = some ⟨.type "tuple", ow_EVENTS_k12_0_1, .seq #[.str "uint" tk_EVENTS_k12_0_1_0] nw_EVENTS_k12_0_1, sw_EVENTS_k12_0_1⟩)
    (w_EVENTS_k12_1 : K.lookup a_EVENTS_k12_1 = some ⟨.type "tuple", ow_EVENTS_k12_1, .seq #[.str "gone" tk_EVENTS_k12_1_0, .ref a_EVENTS_k12_1_1] nw_EVENTS_k12_1, sw_EVENTS_k12_1⟩)
    (w_EVENTS_k12_1_1 : K.lookup a_EVENTS_k12_1_1 = some ⟨.type "tuple", ow_EVENTS_k12_1_1, .seq #[] nw_EVENTS_k12_1_1, sw_EVENTS_k12_1_1⟩)
    (w_EVENTS_k12_2 : K.lookup a_EVENTS_k12_2 = some ⟨.type "tuple", ow_EVENTS_k12_2, .seq #[.str "part" tk_EVENTS_k12_2_0, .ref a_EVENTS_k12_2_1] nw_EVENTS_k12_2, sw_EVENTS_k12_2⟩)
    (w_EVENTS_k12_2_1 : K.lookup a_EVENTS_k12_2_1 = some ⟨.type "tuple", ow_EVENTS_k12_2_1, .seq #[.str "uint" tk_EVENTS_k12_2_1_0, .str "octets" tk_EVENTS_k12_2_1_1] nw_EVENTS_k12_2_1, sw_EVENTS_k12_2_1⟩)
    (w_EVENTS_k13 : K.lookup a_EVENTS_k13 = some ⟨.type "tuple", ow_EVENTS_k13, .seq #[.ref a_EVENTS_k13_0, .ref a_EVENTS_k13_1] nw_EVENTS_k13, sw_EVENTS_k13⟩)
    (w_EVENTS_k13_0 : K.lookup a_EVENTS_k13_0 = some ⟨.type "tuple", ow_EVENTS_k13_0, .seq #[.str "there" tk_EVENTS_k13_0_0, .ref a_EVENTS_k13_0_1] nw_EVENTS_k13_0, sw_EVENTS_k13_0⟩)
    (w_EVENTS_k13_0_1 : K.lookup a_EVENTS_k13_0_1 = some ⟨.type "tuple", ow_EVENTS_k13_0_1, .seq #[] nw_EVENTS_k13_0_1, sw_EVENTS_k13_0_1⟩)
    (w_EVENTS_k13_1 : K.lookup a_EVENTS_k13_1 = some ⟨.type "tuple", ow_EVENTS_k13_1, .seq #[.str "gone" tk_EVENTS_k13_1_0, .ref a_EVENTS_k13_1_1] nw_EVENTS_k13_1, sw_EVENTS_k13_1⟩)
    (w_EVENTS_k13_1_1 : K.lookup a_EVENTS_k13_1_1 = some ⟨.type "tuple", ow_EVENTS_k13_1_1, .seq #[] nw_EVENTS_k13_1_1, sw_EVENTS_k13_1_1⟩)
    (uCaptures : PySem.W.nsIn K mainGlobals "Captures" = some (some (.ref CCaptures)))
    (pgCaptures : PySem.W.plainGet K CCaptures Str.empty = true) (hdCaptures : PySem.W.hasDictIn K CCaptures = true) (poCaptures : PySem.W.plainOver K CCaptures = true) (saCaptures : PySem.W.findIn K (.ref CCaptures) "__setattr__" = some (some (.builtin "object.__setattr__"))) (mkCaptures : PySem.W.makesIn K CCaptures = true) (kcCaptures : PySem.W.keepIn K (.ref CCaptures) = true)
    (nCaptures__pictures : PySem.W.findIn K (.ref CCaptures) "_pictures" = some none)
    (uFetches : PySem.W.nsIn K mainGlobals "Fetches" = some (some (.ref CFetches)))
    (pgFetches : PySem.W.plainGet K CFetches Str.empty = true) (hdFetches : PySem.W.hasDictIn K CFetches = true) (poFetches : PySem.W.plainOver K CFetches = true) (saFetches : PySem.W.findIn K (.ref CFetches) "__setattr__" = some (some (.builtin "object.__setattr__"))) (mkFetches : PySem.W.makesIn K CFetches = true) (kcFetches : PySem.W.keepIn K (.ref CFetches) = true)
    (nFetches__fetches : PySem.W.findIn K (.ref CFetches) "_fetches" = some none)
    (nFetches__watches : PySem.W.findIn K (.ref CFetches) "_watches" = some none)
    (uOffers : PySem.W.nsIn K mainGlobals "Offers" = some (some (.ref COffers)))
    (pgOffers : PySem.W.plainGet K COffers Str.empty = true) (hdOffers : PySem.W.hasDictIn K COffers = true) (poOffers : PySem.W.plainOver K COffers = true) (saOffers : PySem.W.findIn K (.ref COffers) "__setattr__" = some (some (.builtin "object.__setattr__"))) (mkOffers : PySem.W.makesIn K COffers = true) (kcOffers : PySem.W.keepIn K (.ref COffers) = true)
    (nOffers__transfers : PySem.W.findIn K (.ref COffers) "_transfers" = some none)
    (nOffers__kept : PySem.W.findIn K (.ref COffers) "_kept" = some none)
    (nOffers__is_hovered : PySem.W.findIn K (.ref COffers) "_is_hovered" = some none)
    (uSources : PySem.W.nsIn K mainGlobals "Sources" = some (some (.ref CSources)))
    (pgSources : PySem.W.plainGet K CSources Str.empty = true) (hdSources : PySem.W.hasDictIn K CSources = true) (poSources : PySem.W.plainOver K CSources = true) (saSources : PySem.W.findIn K (.ref CSources) "__setattr__" = some (some (.builtin "object.__setattr__"))) (mkSources : PySem.W.makesIn K CSources = true) (kcSources : PySem.W.keepIn K (.ref CSources) = true)
    (nSources__sources : PySem.W.findIn K (.ref CSources) "_sources" = some none)
    (uHoldings : PySem.W.nsIn K mainGlobals "Holdings" = some (some (.ref CHoldings)))
    (pgHoldings : PySem.W.plainGet K CHoldings Str.empty = true) (hdHoldings : PySem.W.hasDictIn K CHoldings = true) (poHoldings : PySem.W.plainOver K CHoldings = true) (saHoldings : PySem.W.findIn K (.ref CHoldings) "__setattr__" = some (some (.builtin "object.__setattr__"))) (mkHoldings : PySem.W.makesIn K CHoldings = true) (kcHoldings : PySem.W.keepIn K (.ref CHoldings) = true)
    (nHoldings__sources : PySem.W.findIn K (.ref CHoldings) "_sources" = some none)
    (nHoldings__offers : PySem.W.findIn K (.ref CHoldings) "_offers" = some none)
    (nHoldings__captures : PySem.W.findIn K (.ref CHoldings) "_captures" = some none)
    (nHoldings__fetches : PySem.W.findIn K (.ref CHoldings) "_fetches" = some none)
    (nHoldings__sent_names : PySem.W.findIn K (.ref CHoldings) "_sent_names" = some none)
    (uReply : PySem.W.nsIn K mainGlobals "Reply" = some (some (.ref CReply)))
    (pgReply : PySem.W.plainGet K CReply Str.empty = true) (hdReply : PySem.W.hasDictIn K CReply = true) (poReply : PySem.W.plainOver K CReply = true) (saReply : PySem.W.findIn K (.ref CReply) "__setattr__" = some (some (.builtin "object.__setattr__"))) (mkReply : PySem.W.makesIn K CReply = true) (kcReply : PySem.W.keepIn K (.ref CReply) = true)
    (nReply_told : PySem.W.findIn K (.ref CReply) "told" = some none)
    (nReply_ended : PySem.W.findIn K (.ref CReply) "ended" = some none)
    (nReply_wishes : PySem.W.findIn K (.ref CReply) "wishes" = some none)
    (nReply_applied : PySem.W.findIn K (.ref CReply) "applied" = some none)
    (uBadMessage : PySem.W.nsIn K mainGlobals "BadMessage" = some (some (.ref CBadMessage))) (xBadMessage : PySem.W.excIn K CBadMessage [.type "ValueError", .type "Exception", .type "BaseException", .type "object"] "ValueError.__new__" = true) (keBadMessage : PySem.W.keepIn K (.ref CBadMessage) = true) (bxBadMessage : PySem.W.subIn K (.ref CBadMessage) (.type "BaseException") = some true) (txBadMessage : PySem.W.typeIn K (.ref CBadMessage) = some (.type "type")) (ixBadMessage : PySem.W.isClsIn K CBadMessage = true) (sxBadMessage : PySem.W.subIn K (.ref CBadMessage) (.ref CBadMessage) = some true)
    (uMessageTooLong : PySem.W.nsIn K mainGlobals "MessageTooLong" = some (some (.ref CMessageTooLong))) (xMessageTooLong : PySem.W.excIn K CMessageTooLong [.type "ValueError", .type "Exception", .type "BaseException", .type "object"] "ValueError.__new__" = true) (keMessageTooLong : PySem.W.keepIn K (.ref CMessageTooLong) = true) (bxMessageTooLong : PySem.W.subIn K (.ref CMessageTooLong) (.type "BaseException") = some true) (txMessageTooLong : PySem.W.typeIn K (.ref CMessageTooLong) = some (.type "type")) (ixMessageTooLong : PySem.W.isClsIn K CMessageTooLong = true) (sxMessageTooLong : PySem.W.subIn K (.ref CMessageTooLong) (.ref CMessageTooLong) = some true)
    : ∃ A : Adr, A.flaw = fa ∧ Txt K mg A ∧ Dic w K A ∧ (∀ (s : Shared) (v : Value), BindsTo s A.dlaw ⟨[v], []⟩ [("script", v)]) := by
  have e := hfa.symm.trans (PySem.W.mg_of X G a19)
  cases e
  have F1 := fun_mk (st := s_is_integer) l1 c1 k1
  have b1 := F1.binds (ps := ["value", "least", "greatest"]) fun _ _ _ _ _ _ us hl => match us, hl with | [_, _, _], _ => rfl
  have F2 := fun_mk (st := s_is_text) l2 c2 k2
  have b2 := F2.binds (ps := ["value"]) fun _ _ _ _ _ _ us hl => match us, hl with | [_], _ => rfl
  have F3 := fun_mk (st := s_number_octets) l3 c3 k3
  have b3 := F3.binds (ps := ["number", "count"]) fun _ _ _ _ _ _ us hl => match us, hl with | [_, _], _ => rfl
  have F4 := fun_mk (st := s_field_octets) l4 c4 k4
  have b4 := F4.binds (ps := ["kind", "value"]) fun _ _ _ _ _ _ us hl => match us, hl with | [_, _], _ => rfl
  have F5 := fun_mk (st := s__is_code) l5 c5 k5
  have b5 := F5.binds (ps := ["code"]) fun _ _ _ _ _ _ us hl => match us, hl with | [_], _ => rfl
  have F6 := fun_mk (st := s__is_of) l6 c6 k6
  have b6 := F6.binds (ps := ["kind", "value"]) fun _ _ _ _ _ _ us hl => match us, hl with | [_, _], _ => rfl
  have F7 := fun_mk (st := s__are_octets) l7 c7 k7
  have b7 := F7.binds (ps := ["value"]) fun _ _ _ _ _ _ us hl => match us, hl with | [_], _ => rfl
  have F8 := fun_mk (st := s__is_bound) l8 c8 k8
  have b8 := F8.binds (ps := ["value"]) fun _ _ _ _ _ _ us hl => match us, hl with | [_], _ => rfl
  have F9 := fun_mk (st := s__text_octets) l9 c9 k9
  have b9 := F9.binds (ps := ["text"]) fun _ _ _ _ _ _ us hl => match us, hl with | [_], _ => rfl
  have F10 := fun_mk (st := s__padded) l10 c10 k10
  have b10 := F10.binds (ps := ["octets"]) fun _ _ _ _ _ _ us hl => match us, hl with | [_], _ => rfl
  have F11 := fun_mk (st := s_encode_message) l11 c11 k11
  have b11 := F11.binds (ps := ["number", "opcode", "arguments"]) fun _ _ _ _ _ _ us hl => match us, hl with | [_, _, _], _ => rfl
  have F12 := fun_mk (st := s_event_octets) l12 c12 k12
  have b12 := F12.binds (ps := ["number", "interface", "name", "values"]) fun _ _ _ _ _ _ us hl => match us, hl with | [_, _, _, _], _ => rfl
  have F13 := fun_mk (st := s__opcode_of) l13 c13 k13
  have b13 := F13.binds (ps := ["rows", "name"]) fun _ _ _ _ _ _ us hl => match us, hl with | [_, _], _ => rfl
  have F14 := fun_mk (st := s__law_cell) l14 c14 k14
  have b14 := F14.binds (ps := ["script", "k"]) fun _ _ _ _ _ _ us hl => match us, hl with | [_, _], _ => rfl
  have F15 := fun_mk (st := s__law_row) l15 c15 k15
  have b15 := F15.binds (ps := ["script", "k"]) fun _ _ _ _ _ _ us hl => match us, hl with | [_, _], _ => rfl
  have F16 := fun_mk (st := s__law_hover) l16 c16 k16
  have b16 := F16.binds (ps := ["holdings", "pane", "row"]) fun _ _ _ _ _ _ us hl => match us, hl with | [_, _, _], _ => rfl
  have F17 := fun_mk (st := s__law_move) l17 c17 k17
  have b17 := F17.binds (ps := ["holdings", "pane", "on", "row"]) fun _ _ _ _ _ _ us hl => match us, hl with | [_, _, _, _], _ => rfl
  have F18 := fun_mk (st := s__law_leave) l18 c18 k18
  have b18 := F18.binds (ps := ["holdings", "pane", "on"]) fun _ _ _ _ _ _ us hl => match us, hl with | [_, _, _], _ => rfl
  have F19 := fun_mk (st := s_law) l19 c19 k19
  have b19 := F19.binds (ps := ["script"]) fun _ _ _ _ _ _ us hl => match us, hl with | [_], _ => rfl
  have F20 := fun_mk (st := s_Captures___init__) l20 c20 k20
  have b20 := F20.binds (ps := ["self"]) fun _ _ _ _ _ _ us hl => match us, hl with | [_], _ => rfl
  have F21 := fun_mk (st := s_Captures_forget) l21 c21 k21
  have b21 := F21.binds (ps := ["self", "number"]) fun _ _ _ _ _ _ us hl => match us, hl with | [_, _], _ => rfl
  have F22 := fun_mk (st := s_Fetches___init__) l22 c22 k22
  have b22 := F22.binds (ps := ["self"]) fun _ _ _ _ _ _ us hl => match us, hl with | [_], _ => rfl
  have F23 := fun_mk (st := s_Fetches_forget) l23 c23 k23
  have b23 := F23.binds (ps := ["self", "number"]) fun _ _ _ _ _ _ us hl => match us, hl with | [_, _], _ => rfl
  have F24 := fun_mk (st := s_Offers___init__) l24 c24 k24
  have b24 := F24.binds (ps := ["self"]) fun _ _ _ _ _ _ us hl => match us, hl with | [_], _ => rfl
  have F25 := fun_mk (st := s_Offers_bound) l25 c25 k25
  have b25 := F25.binds (ps := ["self", "number"]) fun _ _ _ _ _ _ us hl => match us, hl with | [_, _], _ => rfl
  have F26 := fun_mk (st := s_Offers_pane) l26 c26 k26
  have b26 := F26.binds (ps := ["self"]) fun _ _ _ _ _ _ us hl => match us, hl with | [_], _ => rfl
  have F27 := fun_mk (st := s_Offers_forget) l27 c27 k27
  have b27 := F27.binds (ps := ["self", "number"]) fun _ _ _ _ _ _ us hl => match us, hl with | [_, _], _ => rfl
  have F28 := fun_mk (st := s_Offers_hovers) l28 c28 k28
  have b28 := F28.binds (ps := ["self", "surface", "x", "y", "goods", "reply"]) fun _ _ _ _ _ _ us hl => match us, hl with | [_, _, _, _, _, _], _ => rfl
  have F29 := fun_mk (st := s_Offers_moves) l29 c29 k29
  have b29 := F29.binds (ps := ["self", "time", "x", "y", "reply"]) fun _ _ _ _ _ _ us hl => match us, hl with | [_, _, _, _, _], _ => rfl
  have F30 := fun_mk (st := s_Offers_leaves) l30 c30 k30
  have b30 := F30.binds (ps := ["self", "reply"]) fun _ _ _ _ _ _ us hl => match us, hl with | [_, _], _ => rfl
  have F31 := fun_mk (st := s_Offers_dropped) l31 c31 k31
  have b31 := F31.binds (ps := ["self"]) fun _ _ _ _ _ _ us hl => match us, hl with | [_], _ => rfl
  have F32 := fun_mk (st := s_Sources___init__) l32 c32 k32
  have b32 := F32.binds (ps := ["self"]) fun _ _ _ _ _ _ us hl => match us, hl with | [_], _ => rfl
  have F33 := fun_mk (st := s_Sources_forget) l33 c33 k33
  have b33 := F33.binds (ps := ["self", "number"]) fun _ _ _ _ _ _ us hl => match us, hl with | [_, _], _ => rfl
  have F34 := fun_mk (st := s_Holdings___init__) l34 c34 k34
  have b34 := F34.binds (ps := ["self"]) fun _ _ _ _ _ _ us hl => match us, hl with | [_], _ => rfl
  have F35 := fun_mk (st := s_Holdings_bound) l35 c35 k35
  have b35 := F35.binds (ps := ["self", "number"]) fun _ _ _ _ _ _ us hl => match us, hl with | [_, _], _ => rfl
  have F36 := fun_mk (st := s_Holdings_ended) l36 c36 k36
  have b36 := F36.binds (ps := ["self", "number"]) fun _ _ _ _ _ _ us hl => match us, hl with | [_, _], _ => rfl
  have F37 := fun_mk (st := s_Holdings_pane) l37 c37 k37
  have b37 := F37.binds (ps := ["self"]) fun _ _ _ _ _ _ us hl => match us, hl with | [_], _ => rfl
  have F38 := fun_mk (st := s_Holdings_hovers) l38 c38 k38
  have b38 := F38.binds (ps := ["self", "surface", "x", "y", "goods", "reply"]) fun _ _ _ _ _ _ us hl => match us, hl with | [_, _, _, _, _, _], _ => rfl
  have F39 := fun_mk (st := s_Holdings_moves) l39 c39 k39
  have b39 := F39.binds (ps := ["self", "time", "x", "y", "reply"]) fun _ _ _ _ _ _ us hl => match us, hl with | [_, _, _, _, _], _ => rfl
  have F40 := fun_mk (st := s_Holdings_leaves) l40 c40 k40
  have b40 := F40.binds (ps := ["self", "reply"]) fun _ _ _ _ _ _ us hl => match us, hl with | [_, _], _ => rfl
  have F41 := fun_mk (st := s_Holdings_dropped) l41 c41 k41
  have b41 := F41.binds (ps := ["self"]) fun _ _ _ _ _ _ us hl => match us, hl with | [_], _ => rfl
  have F42 := fun_mk (st := s_Reply___init__) l42 c42 k42
  have b42 := F42.binds (ps := ["self"]) fun _ _ _ _ _ _ us hl => match us, hl with | [_], _ => rfl
  have F43 := fun_mk (st := s_Reply_tell) l43 c43 k43
  have b43 := F43.binds (ps := ["self", "number", "interface", "name", "values"]) fun _ _ _ _ _ _ us hl => match us, hl with | [_, _, _, _, _], _ => rfl
  refine ⟨{ fis_integer := fis_integer, dis_integer := (PySem.W.fnOf "is_integer" "is_integer" (defArgs s_is_integer) (defBody s_is_integer) (defScope s_is_integer) .none kV1 dc1 pm1 an1 cd1 ct1), fis_text := fis_text, dis_text := (PySem.W.fnOf "is_text" "is_text" (defArgs s_is_text) (defBody s_is_text) (defScope s_is_text) .none kV2 dc2 pm2 an2 cd2 ct2), fnumber_octets := fnumber_octets, dnumber_octets := (PySem.W.fnOf "number_octets" "number_octets" (defArgs s_number_octets) (defBody s_number_octets) (defScope s_number_octets) .none kV3 dc3 pm3 an3 cd3 ct3), ffield_octets := ffield_octets, dfield_octets := (PySem.W.fnOf "field_octets" "field_octets" (defArgs s_field_octets) (defBody s_field_octets) (defScope s_field_octets) .none kV4 dc4 pm4 an4 cd4 ct4), f_is_code := f_is_code, d_is_code := (PySem.W.fnOf "_is_code" "_is_code" (defArgs s__is_code) (defBody s__is_code) (defScope s__is_code) .none kV5 dc5 pm5 an5 cd5 ct5), f_is_of := f_is_of, d_is_of := (PySem.W.fnOf "_is_of" "_is_of" (defArgs s__is_of) (defBody s__is_of) (defScope s__is_of) .none kV6 dc6 pm6 an6 cd6 ct6), f_are_octets := f_are_octets, d_are_octets := (PySem.W.fnOf "_are_octets" "_are_octets" (defArgs s__are_octets) (defBody s__are_octets) (defScope s__are_octets) .none kV7 dc7 pm7 an7 cd7 ct7), f_is_bound := f_is_bound, d_is_bound := (PySem.W.fnOf "_is_bound" "_is_bound" (defArgs s__is_bound) (defBody s__is_bound) (defScope s__is_bound) .none kV8 dc8 pm8 an8 cd8 ct8), f_text_octets := f_text_octets, d_text_octets := (PySem.W.fnOf "_text_octets" "_text_octets" (defArgs s__text_octets) (defBody s__text_octets) (defScope s__text_octets) .none kV9 dc9 pm9 an9 cd9 ct9), f_padded := f_padded, d_padded := (PySem.W.fnOf "_padded" "_padded" (defArgs s__padded) (defBody s__padded) (defScope s__padded) .none kV10 dc10 pm10 an10 cd10 ct10), fencode_message := fencode_message, dencode_message := (PySem.W.fnOf "encode_message" "encode_message" (defArgs s_encode_message) (defBody s_encode_message) (defScope s_encode_message) .none kV11 dc11 pm11 an11 cd11 ct11), fevent_octets := fevent_octets, devent_octets := (PySem.W.fnOf "event_octets" "event_octets" (defArgs s_event_octets) (defBody s_event_octets) (defScope s_event_octets) .none kV12 dc12 pm12 an12 cd12 ct12), f_opcode_of := f_opcode_of, d_opcode_of := (PySem.W.fnOf "_opcode_of" "_opcode_of" (defArgs s__opcode_of) (defBody s__opcode_of) (defScope s__opcode_of) .none kV13 dc13 pm13 an13 cd13 ct13), f_law_cell := f_law_cell, d_law_cell := (PySem.W.fnOf "_law_cell" "_law_cell" (defArgs s__law_cell) (defBody s__law_cell) (defScope s__law_cell) .none kV14 dc14 pm14 an14 cd14 ct14), f_law_row := f_law_row, d_law_row := (PySem.W.fnOf "_law_row" "_law_row" (defArgs s__law_row) (defBody s__law_row) (defScope s__law_row) .none kV15 dc15 pm15 an15 cd15 ct15), f_law_hover := f_law_hover, d_law_hover := (PySem.W.fnOf "_law_hover" "_law_hover" (defArgs s__law_hover) (defBody s__law_hover) (defScope s__law_hover) .none kV16 dc16 pm16 an16 cd16 ct16), f_law_move := f_law_move, d_law_move := (PySem.W.fnOf "_law_move" "_law_move" (defArgs s__law_move) (defBody s__law_move) (defScope s__law_move) .none kV17 dc17 pm17 an17 cd17 ct17), f_law_leave := f_law_leave, d_law_leave := (PySem.W.fnOf "_law_leave" "_law_leave" (defArgs s__law_leave) (defBody s__law_leave) (defScope s__law_leave) .none kV18 dc18 pm18 an18 cd18 ct18), flaw := fa, dlaw := (PySem.W.fnOf "law" "law" (defArgs s_law) (defBody s_law) (defScope s_law) .none kV19 dc19 pm19 an19 cd19 ct19), fCaptures___init__ := fCaptures___init__, dCaptures___init__ := (PySem.W.fnOf "__init__" "Captures.__init__" (defArgs s_Captures___init__) (defBody s_Captures___init__) (defScope s_Captures___init__) .none kV20 dc20 pm20 an20 cd20 ct20), fCaptures_forget := fCaptures_forget, dCaptures_forget := (PySem.W.fnOf "forget" "Captures.forget" (defArgs s_Captures_forget) (defBody s_Captures_forget) (defScope s_Captures_forget) .none kV21 dc21 pm21 an21 cd21 ct21), fFetches___init__ := fFetches___init__, dFetches___init__ := (PySem.W.fnOf "__init__" "Fetches.__init__" (defArgs s_Fetches___init__) (defBody s_Fetches___init__) (defScope s_Fetches___init__) .none kV22 dc22 pm22 an22 cd22 ct22), fFetches_forget := fFetches_forget, dFetches_forget := (PySem.W.fnOf "forget" "Fetches.forget" (defArgs s_Fetches_forget) (defBody s_Fetches_forget) (defScope s_Fetches_forget) .none kV23 dc23 pm23 an23 cd23 ct23), fOffers___init__ := fOffers___init__, dOffers___init__ := (PySem.W.fnOf "__init__" "Offers.__init__" (defArgs s_Offers___init__) (defBody s_Offers___init__) (defScope s_Offers___init__) .none kV24 dc24 pm24 an24 cd24 ct24), fOffers_bound := fOffers_bound, dOffers_bound := (PySem.W.fnOf "bound" "Offers.bound" (defArgs s_Offers_bound) (defBody s_Offers_bound) (defScope s_Offers_bound) .none kV25 dc25 pm25 an25 cd25 ct25), fOffers_pane := fOffers_pane, dOffers_pane := (PySem.W.fnOf "pane" "Offers.pane" (defArgs s_Offers_pane) (defBody s_Offers_pane) (defScope s_Offers_pane) .none kV26 dc26 pm26 an26 cd26 ct26), fOffers_forget := fOffers_forget, dOffers_forget := (PySem.W.fnOf "forget" "Offers.forget" (defArgs s_Offers_forget) (defBody s_Offers_forget) (defScope s_Offers_forget) .none kV27 dc27 pm27 an27 cd27 ct27), fOffers_hovers := fOffers_hovers, dOffers_hovers := (PySem.W.fnOf "hovers" "Offers.hovers" (defArgs s_Offers_hovers) (defBody s_Offers_hovers) (defScope s_Offers_hovers) .none kV28 dc28 pm28 an28 cd28 ct28), fOffers_moves := fOffers_moves, dOffers_moves := (PySem.W.fnOf "moves" "Offers.moves" (defArgs s_Offers_moves) (defBody s_Offers_moves) (defScope s_Offers_moves) .none kV29 dc29 pm29 an29 cd29 ct29), fOffers_leaves := fOffers_leaves, dOffers_leaves := (PySem.W.fnOf "leaves" "Offers.leaves" (defArgs s_Offers_leaves) (defBody s_Offers_leaves) (defScope s_Offers_leaves) .none kV30 dc30 pm30 an30 cd30 ct30), fOffers_dropped := fOffers_dropped, dOffers_dropped := (PySem.W.fnOf "dropped" "Offers.dropped" (defArgs s_Offers_dropped) (defBody s_Offers_dropped) (defScope s_Offers_dropped) .none kV31 dc31 pm31 an31 cd31 ct31), fSources___init__ := fSources___init__, dSources___init__ := (PySem.W.fnOf "__init__" "Sources.__init__" (defArgs s_Sources___init__) (defBody s_Sources___init__) (defScope s_Sources___init__) .none kV32 dc32 pm32 an32 cd32 ct32), fSources_forget := fSources_forget, dSources_forget := (PySem.W.fnOf "forget" "Sources.forget" (defArgs s_Sources_forget) (defBody s_Sources_forget) (defScope s_Sources_forget) .none kV33 dc33 pm33 an33 cd33 ct33), fHoldings___init__ := fHoldings___init__, dHoldings___init__ := (PySem.W.fnOf "__init__" "Holdings.__init__" (defArgs s_Holdings___init__) (defBody s_Holdings___init__) (defScope s_Holdings___init__) .none kV34 dc34 pm34 an34 cd34 ct34), fHoldings_bound := fHoldings_bound, dHoldings_bound := (PySem.W.fnOf "bound" "Holdings.bound" (defArgs s_Holdings_bound) (defBody s_Holdings_bound) (defScope s_Holdings_bound) .none kV35 dc35 pm35 an35 cd35 ct35), fHoldings_ended := fHoldings_ended, dHoldings_ended := (PySem.W.fnOf "ended" "Holdings.ended" (defArgs s_Holdings_ended) (defBody s_Holdings_ended) (defScope s_Holdings_ended) .none kV36 dc36 pm36 an36 cd36 ct36), fHoldings_pane := fHoldings_pane, dHoldings_pane := (PySem.W.fnOf "pane" "Holdings.pane" (defArgs s_Holdings_pane) (defBody s_Holdings_pane) (defScope s_Holdings_pane) .none kV37 dc37 pm37 an37 cd37 ct37), fHoldings_hovers := fHoldings_hovers, dHoldings_hovers := (PySem.W.fnOf "hovers" "Holdings.hovers" (defArgs s_Holdings_hovers) (defBody s_Holdings_hovers) (defScope s_Holdings_hovers) .none kV38 dc38 pm38 an38 cd38 ct38), fHoldings_moves := fHoldings_moves, dHoldings_moves := (PySem.W.fnOf "moves" "Holdings.moves" (defArgs s_Holdings_moves) (defBody s_Holdings_moves) (defScope s_Holdings_moves) .none kV39 dc39 pm39 an39 cd39 ct39), fHoldings_leaves := fHoldings_leaves, dHoldings_leaves := (PySem.W.fnOf "leaves" "Holdings.leaves" (defArgs s_Holdings_leaves) (defBody s_Holdings_leaves) (defScope s_Holdings_leaves) .none kV40 dc40 pm40 an40 cd40 ct40), fHoldings_dropped := fHoldings_dropped, dHoldings_dropped := (PySem.W.fnOf "dropped" "Holdings.dropped" (defArgs s_Holdings_dropped) (defBody s_Holdings_dropped) (defScope s_Holdings_dropped) .none kV41 dc41 pm41 an41 cd41 ct41), fReply___init__ := fReply___init__, dReply___init__ := (PySem.W.fnOf "__init__" "Reply.__init__" (defArgs s_Reply___init__) (defBody s_Reply___init__) (defScope s_Reply___init__) .none kV42 dc42 pm42 an42 cd42 ct42), fReply_tell := fReply_tell, dReply_tell := (PySem.W.fnOf "tell" "Reply.tell" (defArgs s_Reply_tell) (defBody s_Reply_tell) (defScope s_Reply_tell) .none kV43 dc43 pm43 an43 cd43 ct43), tGREATEST_NUMBER := tGREATEST_NUMBER, tLEAST_INT := tLEAST_INT, tGREATEST_INT := tGREATEST_INT, tLONGEST_TEXT_fields := tLONGEST_TEXT_fields, tMOST_OCTETS_fields := tMOST_OCTETS_fields, t_FIRST_CODE := t_FIRST_CODE, t_LAST_CODE := t_LAST_CODE, t_PERCENT_CODE := t_PERCENT_CODE, tHEADER_SIZE := tHEADER_SIZE, tGREATEST_SIZE := tGREATEST_SIZE, tGREATEST_OPCODE := tGREATEST_OPCODE, tMOST_ARGUMENTS := tMOST_ARGUMENTS, a_EVENTS := a_EVENTS, a_EVENTS_k0 := a_EVENTS_k0, a_EVENTS_k0_0 := a_EVENTS_k0_0, a_EVENTS_k0_0_1 := a_EVENTS_k0_0_1, a_EVENTS_k0_1 := a_EVENTS_k0_1, a_EVENTS_k0_1_1 := a_EVENTS_k0_1_1, a_EVENTS_k1 := a_EVENTS_k1, a_EVENTS_k1_0 := a_EVENTS_k1_0, a_EVENTS_k1_0_1 := a_EVENTS_k1_0_1, a_EVENTS_k2 := a_EVENTS_k2, a_EVENTS_k2_0 := a_EVENTS_k2_0, a_EVENTS_k2_0_1 := a_EVENTS_k2_0_1, a_EVENTS_k2_1 := a_EVENTS_k2_1, a_EVENTS_k2_1_1 := a_EVENTS_k2_1_1, a_EVENTS_k3 := a_EVENTS_k3, a_EVENTS_k3_0 := a_EVENTS_k3_0, a_EVENTS_k3_0_1 := a_EVENTS_k3_0_1, a_EVENTS_k4 := a_EVENTS_k4, a_EVENTS_k4_0 := a_EVENTS_k4_0, a_EVENTS_k4_0_1 := a_EVENTS_k4_0_1, a_EVENTS_k5 := a_EVENTS_k5, a_EVENTS_k5_0 := a_EVENTS_k5_0, a_EVENTS_k5_0_1 := a_EVENTS_k5_0_1, a_EVENTS_k5_1 := a_EVENTS_k5_1, a_EVENTS_k5_1_1 := a_EVENTS_k5_1_1, a_EVENTS_k5_2 := a_EVENTS_k5_2, a_EVENTS_k5_2_1 := a_EVENTS_k5_2_1, a_EVENTS_k5_3 := a_EVENTS_k5_3, a_EVENTS_k5_3_1 := a_EVENTS_k5_3_1, a_EVENTS_k6 := a_EVENTS_k6, a_EVENTS_k6_0 := a_EVENTS_k6_0, a_EVENTS_k6_0_1 := a_EVENTS_k6_0_1, a_EVENTS_k6_1 := a_EVENTS_k6_1, a_EVENTS_k6_1_1 := a_EVENTS_k6_1_1, a_EVENTS_k7 := a_EVENTS_k7, a_EVENTS_k7_0 := a_EVENTS_k7_0, a_EVENTS_k7_0_1 := a_EVENTS_k7_0_1, a_EVENTS_k7_1 := a_EVENTS_k7_1, a_EVENTS_k7_1_1 := a_EVENTS_k7_1_1, a_EVENTS_k7_2 := a_EVENTS_k7_2, a_EVENTS_k7_2_1 := a_EVENTS_k7_2_1, a_EVENTS_k7_3 := a_EVENTS_k7_3, a_EVENTS_k7_3_1 := a_EVENTS_k7_3_1, a_EVENTS_k7_4 := a_EVENTS_k7_4, a_EVENTS_k7_4_1 := a_EVENTS_k7_4_1, a_EVENTS_k8 := a_EVENTS_k8, a_EVENTS_k8_0 := a_EVENTS_k8_0, a_EVENTS_k8_0_1 := a_EVENTS_k8_0_1, a_EVENTS_k8_1 := a_EVENTS_k8_1, a_EVENTS_k8_1_1 := a_EVENTS_k8_1_1, a_EVENTS_k8_2 := a_EVENTS_k8_2, a_EVENTS_k8_2_1 := a_EVENTS_k8_2_1, a_EVENTS_k8_3 := a_EVENTS_k8_3, a_EVENTS_k8_3_1 := a_EVENTS_k8_3_1, a_EVENTS_k8_4 := a_EVENTS_k8_4, a_EVENTS_k8_4_1 := a_EVENTS_k8_4_1, a_EVENTS_k9 := a_EVENTS_k9, a_EVENTS_k9_0 := a_EVENTS_k9_0, a_EVENTS_k9_0_1 := a_EVENTS_k9_0_1, a_EVENTS_k9_1 := a_EVENTS_k9_1, a_EVENTS_k9_1_1 := a_EVENTS_k9_1_1, a_EVENTS_k9_2 := a_EVENTS_k9_2, a_EVENTS_k9_2_1 := a_EVENTS_k9_2_1, a_EVENTS_k9_3 := a_EVENTS_k9_3, a_EVENTS_k9_3_1 := a_EVENTS_k9_3_1, a_EVENTS_k9_4 := a_EVENTS_k9_4, a_EVENTS_k9_4_1 := a_EVENTS_k9_4_1, a_EVENTS_k9_5 := a_EVENTS_k9_5, a_EVENTS_k9_5_1 := a_EVENTS_k9_5_1, a_EVENTS_k10 := a_EVENTS_k10, a_EVENTS_k10_0 := a_EVENTS_k10_0, a_EVENTS_k10_0_1 := a_EVENTS_k10_0_1, a_EVENTS_k10_1 := a_EVENTS_k10_1, a_EVENTS_k10_1_1 := a_EVENTS_k10_1_1, a_EVENTS_k11 := a_EVENTS_k11, a_EVENTS_k11_0 := a_EVENTS_k11_0, a_EVENTS_k11_0_1 := a_EVENTS_k11_0_1, a_EVENTS_k11_1 := a_EVENTS_k11_1, a_EVENTS_k11_1_1 := a_EVENTS_k11_1_1, a_EVENTS_k11_2 := a_EVENTS_k11_2, a_EVENTS_k11_2_1 := a_EVENTS_k11_2_1, a_EVENTS_k12 := a_EVENTS_k12, a_EVENTS_k12_0 := a_EVENTS_k12_0, a_EVENTS_k12_0_1 := a_EVENTS_k12_0_1, a_EVENTS_k12_1 := a_EVENTS_k12_1, a_EVENTS_k12_1_1 := a_EVENTS_k12_1_1, a_EVENTS_k12_2 := a_EVENTS_k12_2, a_EVENTS_k12_2_1 := a_EVENTS_k12_2_1, a_EVENTS_k13 := a_EVENTS_k13, a_EVENTS_k13_0 := a_EVENTS_k13_0, a_EVENTS_k13_0_1 := a_EVENTS_k13_0_1, a_EVENTS_k13_1 := a_EVENTS_k13_1, a_EVENTS_k13_1_1 := a_EVENTS_k13_1_1, CCaptures := CCaptures, CFetches := CFetches, COffers := COffers, CSources := CSources, CHoldings := CHoldings, CReply := CReply, CBadMessage := CBadMessage, CMessageTooLong := CMessageTooLong }, rfl, { Fis_integer := F1, bis_integer := b1, gis_integer := PySem.W.mg_of X G a1, kis_integer := k1, Fis_text := F2, bis_text := b2, gis_text := PySem.W.mg_of X G a2, kis_text := k2, Fnumber_octets := F3, bnumber_octets := b3, gnumber_octets := PySem.W.mg_of X G a3, knumber_octets := k3, Ffield_octets := F4, bfield_octets := b4, gfield_octets := PySem.W.mg_of X G a4, kfield_octets := k4, F_is_code := F5, b_is_code := b5, g_is_code := PySem.W.mg_of X G a5, k_is_code := k5, F_is_of := F6, b_is_of := b6, g_is_of := PySem.W.mg_of X G a6, k_is_of := k6, F_are_octets := F7, b_are_octets := b7, g_are_octets := PySem.W.mg_of X G a7, k_are_octets := k7, F_is_bound := F8, b_is_bound := b8, g_is_bound := PySem.W.mg_of X G a8, k_is_bound := k8, F_text_octets := F9, b_text_octets := b9, g_text_octets := PySem.W.mg_of X G a9, k_text_octets := k9, F_padded := F10, b_padded := b10, g_padded := PySem.W.mg_of X G a10, k_padded := k10, Fencode_message := F11, bencode_message := b11, gencode_message := PySem.W.mg_of X G a11, kencode_message := k11, Fevent_octets := F12, bevent_octets := b12, gevent_octets := PySem.W.mg_of X G a12, kevent_octets := k12, F_opcode_of := F13, b_opcode_of := b13, g_opcode_of := PySem.W.mg_of X G a13, k_opcode_of := k13, F_law_cell := F14, b_law_cell := b14, g_law_cell := PySem.W.mg_of X G a14, k_law_cell := k14, F_law_row := F15, b_law_row := b15, g_law_row := PySem.W.mg_of X G a15, k_law_row := k15, F_law_hover := F16, b_law_hover := b16, g_law_hover := PySem.W.mg_of X G a16, k_law_hover := k16, F_law_move := F17, b_law_move := b17, g_law_move := PySem.W.mg_of X G a17, k_law_move := k17, F_law_leave := F18, b_law_leave := b18, g_law_leave := PySem.W.mg_of X G a18, k_law_leave := k18, Flaw := F19, blaw := b19, glaw := PySem.W.mg_of X G a19, klaw := k19, FCaptures___init__ := F20, bCaptures___init__ := b20, MCaptures := ⟨mkCaptures, a20, i20, kcCaptures⟩, FCaptures_forget := F21, bCaptures_forget := b21, mCaptures_forget := ⟨a21, i21, k21⟩, FFetches___init__ := F22, bFetches___init__ := b22, MFetches := ⟨mkFetches, a22, i22, kcFetches⟩, FFetches_forget := F23, bFetches_forget := b23, mFetches_forget := ⟨a23, i23, k23⟩, FOffers___init__ := F24, bOffers___init__ := b24, MOffers := ⟨mkOffers, a24, i24, kcOffers⟩, FOffers_bound := F25, bOffers_bound := b25, mOffers_bound := ⟨a25, i25, k25⟩, FOffers_pane := F26, bOffers_pane := b26, mOffers_pane := ⟨a26, i26, k26⟩, FOffers_forget := F27, bOffers_forget := b27, mOffers_forget := ⟨a27, i27, k27⟩, FOffers_hovers := F28, bOffers_hovers := b28, mOffers_hovers := ⟨a28, i28, k28⟩, FOffers_moves := F29, bOffers_moves := b29, mOffers_moves := ⟨a29, i29, k29⟩, FOffers_leaves := F30, bOffers_leaves := b30, mOffers_leaves := ⟨a30, i30, k30⟩, FOffers_dropped := F31, bOffers_dropped := b31, mOffers_dropped := ⟨a31, i31, k31⟩, FSources___init__ := F32, bSources___init__ := b32, MSources := ⟨mkSources, a32, i32, kcSources⟩, FSources_forget := F33, bSources_forget := b33, mSources_forget := ⟨a33, i33, k33⟩, FHoldings___init__ := F34, bHoldings___init__ := b34, MHoldings := ⟨mkHoldings, a34, i34, kcHoldings⟩, FHoldings_bound := F35, bHoldings_bound := b35, mHoldings_bound := ⟨a35, i35, k35⟩, FHoldings_ended := F36, bHoldings_ended := b36, mHoldings_ended := ⟨a36, i36, k36⟩, FHoldings_pane := F37, bHoldings_pane := b37, mHoldings_pane := ⟨a37, i37, k37⟩, FHoldings_hovers := F38, bHoldings_hovers := b38, mHoldings_hovers := ⟨a38, i38, k38⟩, FHoldings_moves := F39, bHoldings_moves := b39, mHoldings_moves := ⟨a39, i39, k39⟩, FHoldings_leaves := F40, bHoldings_leaves := b40, mHoldings_leaves := ⟨a40, i40, k40⟩, FHoldings_dropped := F41, bHoldings_dropped := b41, mHoldings_dropped := ⟨a41, i41, k41⟩, FReply___init__ := F42, bReply___init__ := b42, MReply := ⟨mkReply, a42, i42, kcReply⟩, FReply_tell := F43, bReply_tell := b43, mReply_tell := ⟨a43, i43, k43⟩, all := PySem.W.mg_none_of X G z_all, bool := PySem.W.mg_none_of X G z_bool, int := PySem.W.mg_none_of X G z_int, isinstance := PySem.W.mg_none_of X G z_isinstance, len := PySem.W.mg_none_of X G z_len, list := PySem.W.mg_none_of X G z_list, min := PySem.W.mg_none_of X G z_min, ord := PySem.W.mg_none_of X G z_ord, range := PySem.W.mg_none_of X G z_range, str := PySem.W.mg_none_of X G z_str, tuple := PySem.W.mg_none_of X G z_tuple, zip := PySem.W.mg_none_of X G z_zip, gGREATEST_NUMBER := PySem.W.mg_of X G q_GREATEST_NUMBER, gLEAST_INT := PySem.W.mg_of X G q_LEAST_INT, gGREATEST_INT := PySem.W.mg_of X G q_GREATEST_INT, gLONGEST_TEXT_fields := PySem.W.mg_of X G q_LONGEST_TEXT_fields, gMOST_OCTETS_fields := PySem.W.mg_of X G q_MOST_OCTETS_fields, g_FIRST_CODE := PySem.W.mg_of X G q__FIRST_CODE, g_LAST_CODE := PySem.W.mg_of X G q__LAST_CODE, g_PERCENT_CODE := PySem.W.mg_of X G q__PERCENT_CODE, gHEADER_SIZE := PySem.W.mg_of X G q_HEADER_SIZE, gGREATEST_SIZE := PySem.W.mg_of X G q_GREATEST_SIZE, gGREATEST_OPCODE := PySem.W.mg_of X G q_GREATEST_OPCODE, gMOST_ARGUMENTS := PySem.W.mg_of X G q_MOST_ARGUMENTS, g_EVENTS := PySem.W.mg_of X G q__EVENTS, w_EVENTS_k0 := fun _ => .inr ⟨_, _, _, w_EVENTS_k0, rfl, rfl, len_line (Nat.le_of_ble_eq_true rfl), (.cons rfl (.cons rfl .nil))⟩, w_EVENTS_k0_0 := fun _ => .inr ⟨_, _, _, w_EVENTS_k0_0, rfl, rfl, len_line (Nat.le_of_ble_eq_true rfl), (.cons ⟨_, rfl⟩ (.cons rfl .nil))⟩, w_EVENTS_k0_0_1 := fun _ => .inr ⟨_, _, _, w_EVENTS_k0_0_1, rfl, rfl, len_line (Nat.le_of_ble_eq_true rfl), (.cons ⟨_, rfl⟩ (.cons ⟨_, rfl⟩ (.cons ⟨_, rfl⟩ .nil)))⟩, w_EVENTS_k0_1 := fun _ => .inr ⟨_, _, _, w_EVENTS_k0_1, rfl, rfl, len_line (Nat.le_of_ble_eq_true rfl), (.cons ⟨_, rfl⟩ (.cons rfl .nil))⟩, w_EVENTS_k0_1_1 := fun _ => .inr ⟨_, _, _, w_EVENTS_k0_1_1, rfl, rfl, len_line (Nat.le_of_ble_eq_true rfl), (.cons ⟨_, rfl⟩ .nil)⟩, w_EVENTS_k1 := fun _ => .inr ⟨_, _, _, w_EVENTS_k1, rfl, rfl, len_line (Nat.le_of_ble_eq_true rfl), (.cons rfl .nil)⟩, w_EVENTS_k1_0 := fun _ => .inr ⟨_, _, _, w_EVENTS_k1_0, rfl, rfl, len_line (Nat.le_of_ble_eq_true rfl), (.cons ⟨_, rfl⟩ (.cons rfl .nil))⟩, w_EVENTS_k1_0_1 := fun _ => .inr ⟨_, _, _, w_EVENTS_k1_0_1, rfl, rfl, len_line (Nat.le_of_ble_eq_true rfl), (.cons ⟨_, rfl⟩ .nil)⟩, w_EVENTS_k2 := fun _ => .inr ⟨_, _, _, w_EVENTS_k2, rfl, rfl, len_line (Nat.le_of_ble_eq_true rfl), (.cons rfl (.cons rfl .nil))⟩, w_EVENTS_k2_0 := fun _ => .inr ⟨_, _, _, w_EVENTS_k2_0, rfl, rfl, len_line (Nat.le_of_ble_eq_true rfl), (.cons ⟨_, rfl⟩ (.cons rfl .nil))⟩, w_EVENTS_k2_0_1 := fun _ => .inr ⟨_, _, _, w_EVENTS_k2_0_1, rfl, rfl, len_line (Nat.le_of_ble_eq_true rfl), (.cons ⟨_, rfl⟩ (.cons ⟨_, rfl⟩ .nil))⟩, w_EVENTS_k2_1 := fun _ => .inr ⟨_, _, _, w_EVENTS_k2_1, rfl, rfl, len_line (Nat.le_of_ble_eq_true rfl), (.cons ⟨_, rfl⟩ (.cons rfl .nil))⟩, w_EVENTS_k2_1_1 := fun _ => .inr ⟨_, _, _, w_EVENTS_k2_1_1, rfl, rfl, len_line (Nat.le_of_ble_eq_true rfl), (.cons ⟨_, rfl⟩ .nil)⟩, w_EVENTS_k3 := fun _ => .inr ⟨_, _, _, w_EVENTS_k3, rfl, rfl, len_line (Nat.le_of_ble_eq_true rfl), (.cons rfl .nil)⟩, w_EVENTS_k3_0 := fun _ => .inr ⟨_, _, _, w_EVENTS_k3_0, rfl, rfl, len_line (Nat.le_of_ble_eq_true rfl), (.cons ⟨_, rfl⟩ (.cons rfl .nil))⟩, w_EVENTS_k3_0_1 := fun _ => .inr ⟨_, _, _, w_EVENTS_k3_0_1, rfl, rfl, len_line (Nat.le_of_ble_eq_true rfl), .nil⟩, w_EVENTS_k4 := fun _ => .inr ⟨_, _, _, w_EVENTS_k4, rfl, rfl, len_line (Nat.le_of_ble_eq_true rfl), (.cons rfl .nil)⟩, w_EVENTS_k4_0 := fun _ => .inr ⟨_, _, _, w_EVENTS_k4_0, rfl, rfl, len_line (Nat.le_of_ble_eq_true rfl), (.cons ⟨_, rfl⟩ (.cons rfl .nil))⟩, w_EVENTS_k4_0_1 := fun _ => .inr ⟨_, _, _, w_EVENTS_k4_0_1, rfl, rfl, len_line (Nat.le_of_ble_eq_true rfl), (.cons ⟨_, rfl⟩ (.cons ⟨_, rfl⟩ (.cons ⟨_, rfl⟩ (.cons ⟨_, rfl⟩ .nil))))⟩, w_EVENTS_k5 := fun _ => .inr ⟨_, _, _, w_EVENTS_k5, rfl, rfl, len_line (Nat.le_of_ble_eq_true rfl), (.cons rfl (.cons rfl (.cons rfl (.cons rfl .nil))))⟩, w_EVENTS_k5_0 := fun _ => .inr ⟨_, _, _, w_EVENTS_k5_0, rfl, rfl, len_line (Nat.le_of_ble_eq_true rfl), (.cons ⟨_, rfl⟩ (.cons rfl .nil))⟩, w_EVENTS_k5_0_1 := fun _ => .inr ⟨_, _, _, w_EVENTS_k5_0_1, rfl, rfl, len_line (Nat.le_of_ble_eq_true rfl), (.cons ⟨_, rfl⟩ (.cons ⟨_, rfl⟩ (.cons ⟨_, rfl⟩ (.cons ⟨_, rfl⟩ .nil))))⟩, w_EVENTS_k5_1 := fun _ => .inr ⟨_, _, _, w_EVENTS_k5_1, rfl, rfl, len_line (Nat.le_of_ble_eq_true rfl), (.cons ⟨_, rfl⟩ (.cons rfl .nil))⟩, w_EVENTS_k5_1_1 := fun _ => .inr ⟨_, _, _, w_EVENTS_k5_1_1, rfl, rfl, len_line (Nat.le_of_ble_eq_true rfl), .nil⟩, w_EVENTS_k5_2 := fun _ => .inr ⟨_, _, _, w_EVENTS_k5_2, rfl, rfl, len_line (Nat.le_of_ble_eq_true rfl), (.cons ⟨_, rfl⟩ (.cons rfl .nil))⟩, w_EVENTS_k5_2_1 := fun _ => .inr ⟨_, _, _, w_EVENTS_k5_2_1, rfl, rfl, len_line (Nat.le_of_ble_eq_true rfl), (.cons ⟨_, rfl⟩ .nil)⟩, w_EVENTS_k5_3 := fun _ => .inr ⟨_, _, _, w_EVENTS_k5_3, rfl, rfl, len_line (Nat.le_of_ble_eq_true rfl), (.cons ⟨_, rfl⟩ (.cons rfl .nil))⟩, w_EVENTS_k5_3_1 := fun _ => .inr ⟨_, _, _, w_EVENTS_k5_3_1, rfl, rfl, len_line (Nat.le_of_ble_eq_true rfl), (.cons ⟨_, rfl⟩ .nil)⟩, w_EVENTS_k6 := fun _ => .inr ⟨_, _, _, w_EVENTS_k6, rfl, rfl, len_line (Nat.le_of_ble_eq_true rfl), (.cons rfl (.cons rfl .nil))⟩, w_EVENTS_k6_0 := fun _ => .inr ⟨_, _, _, w_EVENTS_k6_0, rfl, rfl, len_line (Nat.le_of_ble_eq_true rfl), (.cons ⟨_, rfl⟩ (.cons rfl .nil))⟩, w_EVENTS_k6_0_1 := fun _ => .inr ⟨_, _, _, w_EVENTS_k6_0_1, rfl, rfl, len_line (Nat.le_of_ble_eq_true rfl), (.cons ⟨_, rfl⟩ (.cons ⟨_, rfl⟩ (.cons ⟨_, rfl⟩ (.cons ⟨_, rfl⟩ .nil))))⟩, w_EVENTS_k6_1 := fun _ => .inr ⟨_, _, _, w_EVENTS_k6_1, rfl, rfl, len_line (Nat.le_of_ble_eq_true rfl), (.cons ⟨_, rfl⟩ (.cons rfl .nil))⟩, w_EVENTS_k6_1_1 := fun _ => .inr ⟨_, _, _, w_EVENTS_k6_1_1, rfl, rfl, len_line (Nat.le_of_ble_eq_true rfl), .nil⟩, w_EVENTS_k7 := fun _ => .inr ⟨_, _, _, w_EVENTS_k7, rfl, rfl, len_line (Nat.le_of_ble_eq_true rfl), (.cons rfl (.cons rfl (.cons rfl (.cons rfl (.cons rfl .nil)))))⟩, w_EVENTS_k7_0 := fun _ => .inr ⟨_, _, _, w_EVENTS_k7_0, rfl, rfl, len_line (Nat.le_of_ble_eq_true rfl), (.cons ⟨_, rfl⟩ (.cons rfl .nil))⟩, w_EVENTS_k7_0_1 := fun _ => .inr ⟨_, _, _, w_EVENTS_k7_0_1, rfl, rfl, len_line (Nat.le_of_ble_eq_true rfl), (.cons ⟨_, rfl⟩ (.cons ⟨_, rfl⟩ (.cons ⟨_, rfl⟩ .nil)))⟩, w_EVENTS_k7_1 := fun _ => .inr ⟨_, _, _, w_EVENTS_k7_1, rfl, rfl, len_line (Nat.le_of_ble_eq_true rfl), (.cons ⟨_, rfl⟩ (.cons rfl .nil))⟩, w_EVENTS_k7_1_1 := fun _ => .inr ⟨_, _, _, w_EVENTS_k7_1_1, rfl, rfl, len_line (Nat.le_of_ble_eq_true rfl), (.cons ⟨_, rfl⟩ .nil)⟩, w_EVENTS_k7_2 := fun _ => .inr ⟨_, _, _, w_EVENTS_k7_2, rfl, rfl, len_line (Nat.le_of_ble_eq_true rfl), (.cons ⟨_, rfl⟩ (.cons rfl .nil))⟩, w_EVENTS_k7_2_1 := fun _ => .inr ⟨_, _, _, w_EVENTS_k7_2_1, rfl, rfl, len_line (Nat.le_of_ble_eq_true rfl), (.cons ⟨_, rfl⟩ (.cons ⟨_, rfl⟩ (.cons ⟨_, rfl⟩ .nil)))⟩, w_EVENTS_k7_3 := fun _ => .inr ⟨_, _, _, w_EVENTS_k7_3, rfl, rfl, len_line (Nat.le_of_ble_eq_true rfl), (.cons ⟨_, rfl⟩ (.cons rfl .nil))⟩, w_EVENTS_k7_3_1 := fun _ => .inr ⟨_, _, _, w_EVENTS_k7_3_1, rfl, rfl, len_line (Nat.le_of_ble_eq_true rfl), (.cons ⟨_, rfl⟩ (.cons ⟨_, rfl⟩ (.cons ⟨_, rfl⟩ (.cons ⟨_, rfl⟩ .nil))))⟩, w_EVENTS_k7_4 := fun _ => .inr ⟨_, _, _, w_EVENTS_k7_4, rfl, rfl, len_line (Nat.le_of_ble_eq_true rfl), (.cons ⟨_, rfl⟩ (.cons rfl .nil))⟩, w_EVENTS_k7_4_1 := fun _ => .inr ⟨_, _, _, w_EVENTS_k7_4_1, rfl, rfl, len_line (Nat.le_of_ble_eq_true rfl), (.cons ⟨_, rfl⟩ (.cons ⟨_, rfl⟩ (.cons ⟨_, rfl⟩ .nil)))⟩, w_EVENTS_k8 := fun _ => .inr ⟨_, _, _, w_EVENTS_k8, rfl, rfl, len_line (Nat.le_of_ble_eq_true rfl), (.cons rfl (.cons rfl (.cons rfl (.cons rfl (.cons rfl .nil)))))⟩, w_EVENTS_k8_0 := fun _ => .inr ⟨_, _, _, w_EVENTS_k8_0, rfl, rfl, len_line (Nat.le_of_ble_eq_true rfl), (.cons ⟨_, rfl⟩ (.cons rfl .nil))⟩, w_EVENTS_k8_0_1 := fun _ => .inr ⟨_, _, _, w_EVENTS_k8_0_1, rfl, rfl, len_line (Nat.le_of_ble_eq_true rfl), (.cons ⟨_, rfl⟩ .nil)⟩, w_EVENTS_k8_1 := fun _ => .inr ⟨_, _, _, w_EVENTS_k8_1, rfl, rfl, len_line (Nat.le_of_ble_eq_true rfl), (.cons ⟨_, rfl⟩ (.cons rfl .nil))⟩, w_EVENTS_k8_1_1 := fun _ => .inr ⟨_, _, _, w_EVENTS_k8_1_1, rfl, rfl, len_line (Nat.le_of_ble_eq_true rfl), (.cons ⟨_, rfl⟩ .nil)⟩, w_EVENTS_k8_2 := fun _ => .inr ⟨_, _, _, w_EVENTS_k8_2, rfl, rfl, len_line (Nat.le_of_ble_eq_true rfl), (.cons ⟨_, rfl⟩ (.cons rfl .nil))⟩, w_EVENTS_k8_2_1 := fun _ => .inr ⟨_, _, _, w_EVENTS_k8_2_1, rfl, rfl, len_line (Nat.le_of_ble_eq_true rfl), (.cons ⟨_, rfl⟩ .nil)⟩, w_EVENTS_k8_3 := fun _ => .inr ⟨_, _, _, w_EVENTS_k8_3, rfl, rfl, len_line (Nat.le_of_ble_eq_true rfl), (.cons ⟨_, rfl⟩ (.cons rfl .nil))⟩, w_EVENTS_k8_3_1 := fun _ => .inr ⟨_, _, _, w_EVENTS_k8_3_1, rfl, rfl, len_line (Nat.le_of_ble_eq_true rfl), (.cons ⟨_, rfl⟩ (.cons ⟨_, rfl⟩ (.cons ⟨_, rfl⟩ (.cons ⟨_, rfl⟩ .nil))))⟩, w_EVENTS_k8_4 := fun _ => .inr ⟨_, _, _, w_EVENTS_k8_4, rfl, rfl, len_line (Nat.le_of_ble_eq_true rfl), (.cons ⟨_, rfl⟩ (.cons rfl .nil))⟩, w_EVENTS_k8_4_1 := fun _ => .inr ⟨_, _, _, w_EVENTS_k8_4_1, rfl, rfl, len_line (Nat.le_of_ble_eq_true rfl), (.cons ⟨_, rfl⟩ (.cons ⟨_, rfl⟩ (.cons ⟨_, rfl⟩ .nil)))⟩, w_EVENTS_k9 := fun _ => .inr ⟨_, _, _, w_EVENTS_k9, rfl, rfl, len_line (Nat.le_of_ble_eq_true rfl), (.cons rfl (.cons rfl (.cons rfl (.cons rfl (.cons rfl (.cons rfl .nil))))))⟩, w_EVENTS_k9_0 := fun _ => .inr ⟨_, _, _, w_EVENTS_k9_0, rfl, rfl, len_line (Nat.le_of_ble_eq_true rfl), (.cons ⟨_, rfl⟩ (.cons rfl .nil))⟩, w_EVENTS_k9_0_1 := fun _ => .inr ⟨_, _, _, w_EVENTS_k9_0_1, rfl, rfl, len_line (Nat.le_of_ble_eq_true rfl), (.cons ⟨_, rfl⟩ (.cons ⟨_, rfl⟩ .nil))⟩, w_EVENTS_k9_1 := fun _ => .inr ⟨_, _, _, w_EVENTS_k9_1, rfl, rfl, len_line (Nat.le_of_ble_eq_true rfl), (.cons ⟨_, rfl⟩ (.cons rfl .nil))⟩, w_EVENTS_k9_1_1 := fun _ => .inr ⟨_, _, _, w_EVENTS_k9_1_1, rfl, rfl, len_line (Nat.le_of_ble_eq_true rfl), (.cons ⟨_, rfl⟩ (.cons ⟨_, rfl⟩ (.cons ⟨_, rfl⟩ .nil)))⟩, w_EVENTS_k9_2 := fun _ => .inr ⟨_, _, _, w_EVENTS_k9_2, rfl, rfl, len_line (Nat.le_of_ble_eq_true rfl), (.cons ⟨_, rfl⟩ (.cons rfl .nil))⟩, w_EVENTS_k9_2_1 := fun _ => .inr ⟨_, _, _, w_EVENTS_k9_2_1, rfl, rfl, len_line (Nat.le_of_ble_eq_true rfl), (.cons ⟨_, rfl⟩ .nil)⟩, w_EVENTS_k9_3 := fun _ => .inr ⟨_, _, _, w_EVENTS_k9_3, rfl, rfl, len_line (Nat.le_of_ble_eq_true rfl), (.cons ⟨_, rfl⟩ (.cons rfl .nil))⟩, w_EVENTS_k9_3_1 := fun _ => .inr ⟨_, _, _, w_EVENTS_k9_3_1, rfl, rfl, len_line (Nat.le_of_ble_eq_true rfl), (.cons ⟨_, rfl⟩ (.cons ⟨_, rfl⟩ (.cons ⟨_, rfl⟩ .nil)))⟩, w_EVENTS_k9_4 := fun _ => .inr ⟨_, _, _, w_EVENTS_k9_4, rfl, rfl, len_line (Nat.le_of_ble_eq_true rfl), (.cons ⟨_, rfl⟩ (.cons rfl .nil))⟩, w_EVENTS_k9_4_1 := fun _ => .inr ⟨_, _, _, w_EVENTS_k9_4_1, rfl, rfl, len_line (Nat.le_of_ble_eq_true rfl), .nil⟩, w_EVENTS_k9_5 := fun _ => .inr ⟨_, _, _, w_EVENTS_k9_5, rfl, rfl, len_line (Nat.le_of_ble_eq_true rfl), (.cons ⟨_, rfl⟩ (.cons rfl .nil))⟩, w_EVENTS_k9_5_1 := fun _ => .inr ⟨_, _, _, w_EVENTS_k9_5_1, rfl, rfl, len_line (Nat.le_of_ble_eq_true rfl), .nil⟩, w_EVENTS_k10 := fun _ => .inr ⟨_, _, _, w_EVENTS_k10, rfl, rfl, len_line (Nat.le_of_ble_eq_true rfl), (.cons rfl (.cons rfl .nil))⟩, w_EVENTS_k10_0 := fun _ => .inr ⟨_, _, _, w_EVENTS_k10_0, rfl, rfl, len_line (Nat.le_of_ble_eq_true rfl), (.cons ⟨_, rfl⟩ (.cons rfl .nil))⟩, w_EVENTS_k10_0_1 := fun _ => .inr ⟨_, _, _, w_EVENTS_k10_0_1, rfl, rfl, len_line (Nat.le_of_ble_eq_true rfl), (.cons ⟨_, rfl⟩ (.cons ⟨_, rfl⟩ .nil))⟩, w_EVENTS_k10_1 := fun _ => .inr ⟨_, _, _, w_EVENTS_k10_1, rfl, rfl, len_line (Nat.le_of_ble_eq_true rfl), (.cons ⟨_, rfl⟩ (.cons rfl .nil))⟩, w_EVENTS_k10_1_1 := fun _ => .inr ⟨_, _, _, w_EVENTS_k10_1_1, rfl, rfl, len_line (Nat.le_of_ble_eq_true rfl), (.cons ⟨_, rfl⟩ (.cons ⟨_, rfl⟩ (.cons ⟨_, rfl⟩ .nil)))⟩, w_EVENTS_k11 := fun _ => .inr ⟨_, _, _, w_EVENTS_k11, rfl, rfl, len_line (Nat.le_of_ble_eq_true rfl), (.cons rfl (.cons rfl (.cons rfl .nil)))⟩, w_EVENTS_k11_0 := fun _ => .inr ⟨_, _, _, w_EVENTS_k11_0, rfl, rfl, len_line (Nat.le_of_ble_eq_true rfl), (.cons ⟨_, rfl⟩ (.cons rfl .nil))⟩, w_EVENTS_k11_0_1 := fun _ => .inr ⟨_, _, _, w_EVENTS_k11_0_1, rfl, rfl, len_line (Nat.le_of_ble_eq_true rfl), (.cons ⟨_, rfl⟩ (.cons ⟨_, rfl⟩ .nil))⟩, w_EVENTS_k11_1 := fun _ => .inr ⟨_, _, _, w_EVENTS_k11_1, rfl, rfl, len_line (Nat.le_of_ble_eq_true rfl), (.cons ⟨_, rfl⟩ (.cons rfl .nil))⟩, w_EVENTS_k11_1_1 := fun _ => .inr ⟨_, _, _, w_EVENTS_k11_1_1, rfl, rfl, len_line (Nat.le_of_ble_eq_true rfl), .nil⟩, w_EVENTS_k11_2 := fun _ => .inr ⟨_, _, _, w_EVENTS_k11_2, rfl, rfl, len_line (Nat.le_of_ble_eq_true rfl), (.cons ⟨_, rfl⟩ (.cons rfl .nil))⟩, w_EVENTS_k11_2_1 := fun _ => .inr ⟨_, _, _, w_EVENTS_k11_2_1, rfl, rfl, len_line (Nat.le_of_ble_eq_true rfl), (.cons ⟨_, rfl⟩ (.cons ⟨_, rfl⟩ .nil))⟩, w_EVENTS_k12 := fun _ => .inr ⟨_, _, _, w_EVENTS_k12, rfl, rfl, len_line (Nat.le_of_ble_eq_true rfl), (.cons rfl (.cons rfl (.cons rfl .nil)))⟩, w_EVENTS_k12_0 := fun _ => .inr ⟨_, _, _, w_EVENTS_k12_0, rfl, rfl, len_line (Nat.le_of_ble_eq_true rfl), (.cons ⟨_, rfl⟩ (.cons rfl .nil))⟩, w_EVENTS_k12_0_1 := fun _ => .inr ⟨_, _, _, w_EVENTS_k12_0_1, rfl, rfl, len_line (Nat.le_of_ble_eq_true rfl), (.cons ⟨_, rfl⟩ .nil)⟩, w_EVENTS_k12_1 := fun _ => .inr ⟨_, _, _, w_EVENTS_k12_1, rfl, rfl, len_line (Nat.le_of_ble_eq_true rfl), (.cons ⟨_, rfl⟩ (.cons rfl .nil))⟩, w_EVENTS_k12_1_1 := fun _ => .inr ⟨_, _, _, w_EVENTS_k12_1_1, rfl, rfl, len_line (Nat.le_of_ble_eq_true rfl), .nil⟩, w_EVENTS_k12_2 := fun _ => .inr ⟨_, _, _, w_EVENTS_k12_2, rfl, rfl, len_line (Nat.le_of_ble_eq_true rfl), (.cons ⟨_, rfl⟩ (.cons rfl .nil))⟩, w_EVENTS_k12_2_1 := fun _ => .inr ⟨_, _, _, w_EVENTS_k12_2_1, rfl, rfl, len_line (Nat.le_of_ble_eq_true rfl), (.cons ⟨_, rfl⟩ (.cons ⟨_, rfl⟩ .nil))⟩, w_EVENTS_k13 := fun _ => .inr ⟨_, _, _, w_EVENTS_k13, rfl, rfl, len_line (Nat.le_of_ble_eq_true rfl), (.cons rfl (.cons rfl .nil))⟩, w_EVENTS_k13_0 := fun _ => .inr ⟨_, _, _, w_EVENTS_k13_0, rfl, rfl, len_line (Nat.le_of_ble_eq_true rfl), (.cons ⟨_, rfl⟩ (.cons rfl .nil))⟩, w_EVENTS_k13_0_1 := fun _ => .inr ⟨_, _, _, w_EVENTS_k13_0_1, rfl, rfl, len_line (Nat.le_of_ble_eq_true rfl), .nil⟩, w_EVENTS_k13_1 := fun _ => .inr ⟨_, _, _, w_EVENTS_k13_1, rfl, rfl, len_line (Nat.le_of_ble_eq_true rfl), (.cons ⟨_, rfl⟩ (.cons rfl .nil))⟩, w_EVENTS_k13_1_1 := fun _ => .inr ⟨_, _, _, w_EVENTS_k13_1_1, rfl, rfl, len_line (Nat.le_of_ble_eq_true rfl), .nil⟩, clCaptures := ⟨pgCaptures, hdCaptures, poCaptures, saCaptures⟩, gCaptures := PySem.W.mg_of X G uCaptures, nCaptures__pictures := nCaptures__pictures, clFetches := ⟨pgFetches, hdFetches, poFetches, saFetches⟩, gFetches := PySem.W.mg_of X G uFetches, nFetches__fetches := nFetches__fetches, nFetches__watches := nFetches__watches, clOffers := ⟨pgOffers, hdOffers, poOffers, saOffers⟩, gOffers := PySem.W.mg_of X G uOffers, nOffers__transfers := nOffers__transfers, nOffers__kept := nOffers__kept, nOffers__is_hovered := nOffers__is_hovered, clSources := ⟨pgSources, hdSources, poSources, saSources⟩, gSources := PySem.W.mg_of X G uSources, nSources__sources := nSources__sources, clHoldings := ⟨pgHoldings, hdHoldings, poHoldings, saHoldings⟩, gHoldings := PySem.W.mg_of X G uHoldings, nHoldings__sources := nHoldings__sources, nHoldings__offers := nHoldings__offers, nHoldings__captures := nHoldings__captures, nHoldings__fetches := nHoldings__fetches, nHoldings__sent_names := nHoldings__sent_names, clReply := ⟨pgReply, hdReply, poReply, saReply⟩, gReply := PySem.W.mg_of X G uReply, nReply_told := nReply_told, nReply_ended := nReply_ended, nReply_wishes := nReply_wishes, nReply_applied := nReply_applied, gBadMessage := PySem.W.mg_of X G uBadMessage, xBadMessage := xBadMessage, kBadMessage := keBadMessage, bxBadMessage := bxBadMessage, txBadMessage := txBadMessage, exBadMessage := exm_self bxBadMessage ixBadMessage txBadMessage sxBadMessage, gMessageTooLong := PySem.W.mg_of X G uMessageTooLong, xMessageTooLong := xMessageTooLong, kMessageTooLong := keMessageTooLong, bxMessageTooLong := bxMessageTooLong, txMessageTooLong := txMessageTooLong, exMessageTooLong := exm_self bxMessageTooLong ixMessageTooLong txMessageTooLong sxMessageTooLong }, { d_EVENTS_k0 := ⟨_, _, _, dl_EVENTS, dk_EVENTS, de_EVENTS_k0, rfl⟩, d_EVENTS_k1 := ⟨_, _, _, dl_EVENTS, dk_EVENTS, de_EVENTS_k1, rfl⟩, d_EVENTS_k2 := ⟨_, _, _, dl_EVENTS, dk_EVENTS, de_EVENTS_k2, rfl⟩, d_EVENTS_k3 := ⟨_, _, _, dl_EVENTS, dk_EVENTS, de_EVENTS_k3, rfl⟩, d_EVENTS_k4 := ⟨_, _, _, dl_EVENTS, dk_EVENTS, de_EVENTS_k4, rfl⟩, d_EVENTS_k5 := ⟨_, _, _, dl_EVENTS, dk_EVENTS, de_EVENTS_k5, rfl⟩, d_EVENTS_k6 := ⟨_, _, _, dl_EVENTS, dk_EVENTS, de_EVENTS_k6, rfl⟩, d_EVENTS_k7 := ⟨_, _, _, dl_EVENTS, dk_EVENTS, de_EVENTS_k7, rfl⟩, d_EVENTS_k8 := ⟨_, _, _, dl_EVENTS, dk_EVENTS, de_EVENTS_k8, rfl⟩, d_EVENTS_k9 := ⟨_, _, _, dl_EVENTS, dk_EVENTS, de_EVENTS_k9, rfl⟩, d_EVENTS_k10 := ⟨_, _, _, dl_EVENTS, dk_EVENTS, de_EVENTS_k10, rfl⟩, d_EVENTS_k11 := ⟨_, _, _, dl_EVENTS, dk_EVENTS, de_EVENTS_k11, rfl⟩, d_EVENTS_k12 := ⟨_, _, _, dl_EVENTS, dk_EVENTS, de_EVENTS_k12, rfl⟩, d_EVENTS_k13 := ⟨_, _, _, dl_EVENTS, dk_EVENTS, de_EVENTS_k13, rfl⟩ }, fun s v => .of_eq rfl⟩
theorem walk {l : PySem.W.OpenLaw} {q : Program} {loose : List Str} {XP : (Str → Option Value) → Heap → Prop} {YP : World → Heap → Prop} {d : DefRec} {K : Params → PySem.W.Frag} (hn : l.most = some 63) (hdf : d.params.defaults = [])
    (hY : ∀ (w : World) (h : Heap), YP w h → (K w.params).In h)
    (F : ∀ (w : World) (mg : Str → Option Value) (fa : Addr) (h : Heap), (K w.params).In h → h.Ns mainGlobals mg → mg d.name = some (.ref fa) →
      ∃ A : Adr, A.flaw = fa ∧ Txt (K w.params) mg A ∧ Dic w (K w.params) A ∧ (∀ (s : Shared) (v : Value), BindsTo s A.dlaw ⟨[v], []⟩ [("script", v)])) :
    PySem.W.WalkO q loose XP YP l.row.toRowW d [] (fun f vs => PySem.call f vs) :=
  L2.walk_of (n := 63) (k := 13) (x := "script") (CX := fun _ => CX0) (sp := fun w => sp_law (K w.params)) hn (by decide) hdf ⟨rfl, by decide, by decide⟩ hY (fun w mg fa h X G hfa => by
    obtain ⟨A, rfl, T, D, b⟩ := F w mg fa h X G hfa
    exact ⟨A.dlaw, b, fun base _ _ => ok_law T D⟩) (fun _ _ a ns hl _ hS => ⟨a, ns, rfl, hS, hl, fun _ => rfl⟩) fun _ _ _ _ _ z => z
end My
open PySem PySem.W PyProof.Rows
set_option maxRecDepth 100000 in
set_option maxHeartbeats 0 in
theorem PySem.Challenge.cw_sillwatch_k66_drags_told_holds : PySem.Challenge.rw_sillwatch_k66_drags_told.Holds := by
  w_on; o_law; k_head; (case hw => w_witness2)
  k_fill
  refine My.walk (l := PySem.Challenge.rw_sillwatch_k66_drags_told) rfl rfl (fun w h Y => PySem.W.kIn_of Y) ?F
  case F =>
    intro w mg fa h KX G hmg
    refine' My.all_mk KX G hmg ?a1 ?l1 ?c1 ?k1 ?a2 ?l2 ?c2 ?k2 ?a3 ?l3 ?c3 ?k3 ?a4 ?l4 ?c4 ?k4 ?a5 ?l5 ?c5 ?k5 ?a6 ?l6 ?c6 ?k6 ?a7 ?l7 ?c7 ?k7 ?a8 ?l8 ?c8 ?k8 ?a9 ?l9 ?c9 ?k9 ?a10 ?l10 ?c10 ?k10 ?a11 ?l11 ?c11 ?k11 ?a12 ?l12 ?c12 ?k12 ?a13 ?l13 ?c13 ?k13 ?a14 ?l14 ?c14 ?k14 ?a15 ?l15 ?c15 ?k15 ?a16 ?l16 ?c16 ?k16 ?a17 ?l17 ?c17 ?k17 ?a18 ?l18 ?c18 ?k18 ?a19 ?l19 ?c19 ?k19 ?a20 ?i20 ?l20 ?c20 ?k20 ?a21 ?i21 ?l21 ?c21 ?k21 ?a22 ?i22 ?l22 ?c22 ?k22 ?a23 ?i23 ?l23 ?c23 ?k23 ?a24 ?i24 ?l24 ?c24 ?k24 ?a25 ?i25 ?l25 ?c25 ?k25 ?a26 ?i26 ?l26 ?c26 ?k26 ?a27 ?i27 ?l27 ?c27 ?k27 ?a28 ?i28 ?l28 ?c28 ?k28 ?a29 ?i29 ?l29 ?c29 ?k29 ?a30 ?i30 ?l30 ?c30 ?k30 ?a31 ?i31 ?l31 ?c31 ?k31 ?a32 ?i32 ?l32 ?c32 ?k32 ?a33 ?i33 ?l33 ?c33 ?k33 ?a34 ?i34 ?l34 ?c34 ?k34 ?a35 ?i35 ?l35 ?c35 ?k35 ?a36 ?i36 ?l36 ?c36 ?k36 ?a37 ?i37 ?l37 ?c37 ?k37 ?a38 ?i38 ?l38 ?c38 ?k38 ?a39 ?i39 ?l39 ?c39 ?k39 ?a40 ?i40 ?l40 ?c40 ?k40 ?a41 ?i41 ?l41 ?c41 ?k41 ?a42 ?i42 ?l42 ?c42 ?k42 ?a43 ?i43 ?l43 ?c43 ?k43 ?z_all ?z_bool ?z_int ?z_isinstance ?z_len ?z_list ?z_min ?z_ord ?z_range ?z_str ?z_tuple ?z_zip ?q_GREATEST_NUMBER ?q_LEAST_INT ?q_GREATEST_INT ?q_LONGEST_TEXT_fields ?q_MOST_OCTETS_fields ?q__FIRST_CODE ?q__LAST_CODE ?q__PERCENT_CODE ?q_HEADER_SIZE ?q_GREATEST_SIZE ?q_GREATEST_OPCODE ?q_MOST_ARGUMENTS ?q__EVENTS ?dl_EVENTS ?dk_EVENTS ?de_EVENTS_k0 ?de_EVENTS_k1 ?de_EVENTS_k2 ?de_EVENTS_k3 ?de_EVENTS_k4 ?de_EVENTS_k5 ?de_EVENTS_k6 ?de_EVENTS_k7 ?de_EVENTS_k8 ?de_EVENTS_k9 ?de_EVENTS_k10 ?de_EVENTS_k11 ?de_EVENTS_k12 ?de_EVENTS_k13 ?w_EVENTS_k0 ?w_EVENTS_k0_0 ?w_EVENTS_k0_0_1 ?w_EVENTS_k0_1 ?w_EVENTS_k0_1_1 ?w_EVENTS_k1 ?w_EVENTS_k1_0 ?w_EVENTS_k1_0_1 ?w_EVENTS_k2 ?w_EVENTS_k2_0 ?w_EVENTS_k2_0_1 ?w_EVENTS_k2_1 ?w_EVENTS_k2_1_1 ?w_EVENTS_k3 ?w_EVENTS_k3_0 ?w_EVENTS_k3_0_1 ?w_EVENTS_k4 ?w_EVENTS_k4_0 ?w_EVENTS_k4_0_1 ?w_EVENTS_k5 ?w_EVENTS_k5_0 ?w_EVENTS_k5_0_1 ?w_EVENTS_k5_1 ?w_EVENTS_k5_1_1 ?w_EVENTS_k5_2 ?w_EVENTS_k5_2_1 ?w_EVENTS_k5_3 ?w_EVENTS_k5_3_1 ?w_EVENTS_k6 ?w_EVENTS_k6_0 ?w_EVENTS_k6_0_1 ?w_EVENTS_k6_1 ?w_EVENTS_k6_1_1 ?w_EVENTS_k7 ?w_EVENTS_k7_0 ?w_EVENTS_k7_0_1 ?w_EVENTS_k7_1 ?w_EVENTS_k7_1_1 ?w_EVENTS_k7_2 ?w_EVENTS_k7_2_1 ?w_EVENTS_k7_3 ?w_EVENTS_k7_3_1 ?w_EVENTS_k7_4 ?w_EVENTS_k7_4_1 ?w_EVENTS_k8 ?w_EVENTS_k8_0 ?w_EVENTS_k8_0_1 ?w_EVENTS_k8_1 ?w_EVENTS_k8_1_1 ?w_EVENTS_k8_2 ?w_EVENTS_k8_2_1 ?w_EVENTS_k8_3 ?w_EVENTS_k8_3_1 ?w_EVENTS_k8_4 ?w_EVENTS_k8_4_1 ?w_EVENTS_k9 ?w_EVENTS_k9_0 ?w_EVENTS_k9_0_1 ?w_EVENTS_k9_1 ?w_EVENTS_k9_1_1 ?w_EVENTS_k9_2 ?w_EVENTS_k9_2_1 ?w_EVENTS_k9_3 ?w_EVENTS_k9_3_1 ?w_EVENTS_k9_4 ?w_EVENTS_k9_4_1 ?w_EVENTS_k9_5 ?w_EVENTS_k9_5_1 ?w_EVENTS_k10 ?w_EVENTS_k10_0 ?w_EVENTS_k10_0_1 ?w_EVENTS_k10_1 ?w_EVENTS_k10_1_1 ?w_EVENTS_k11 ?w_EVENTS_k11_0 ?w_EVENTS_k11_0_1 ?w_EVENTS_k11_1 ?w_EVENTS_k11_1_1 ?w_EVENTS_k11_2 ?w_EVENTS_k11_2_1 ?w_EVENTS_k12 ?w_EVENTS_k12_0 ?w_EVENTS_k12_0_1 ?w_EVENTS_k12_1 ?w_EVENTS_k12_1_1 ?w_EVENTS_k12_2 ?w_EVENTS_k12_2_1 ?w_EVENTS_k13 ?w_EVENTS_k13_0 ?w_EVENTS_k13_0_1 ?w_EVENTS_k13_1 ?w_EVENTS_k13_1_1 ?uCaptures ?pgCaptures ?hdCaptures ?poCaptures ?saCaptures ?mkCaptures ?kcCaptures ?nCaptures__pictures ?uFetches ?pgFetches ?hdFetches ?poFetches ?saFetches ?mkFetches ?kcFetches ?nFetches__fetches ?nFetches__watches ?uOffers ?pgOffers ?hdOffers ?poOffers ?saOffers ?mkOffers ?kcOffers ?nOffers__transfers ?nOffers__kept ?nOffers__is_hovered ?uSources ?pgSources ?hdSources ?poSources ?saSources ?mkSources ?kcSources ?nSources__sources ?uHoldings ?pgHoldings ?hdHoldings ?poHoldings ?saHoldings ?mkHoldings ?kcHoldings ?nHoldings__sources ?nHoldings__offers ?nHoldings__captures ?nHoldings__fetches ?nHoldings__sent_names ?uReply ?pgReply ?hdReply ?poReply ?saReply ?mkReply ?kcReply ?nReply_told ?nReply_ended ?nReply_wishes ?nReply_applied ?uBadMessage ?xBadMessage ?keBadMessage ?bxBadMessage ?txBadMessage ?ixBadMessage ?sxBadMessage ?uMessageTooLong ?xMessageTooLong ?keMessageTooLong ?bxMessageTooLong ?txMessageTooLong ?ixMessageTooLong ?sxMessageTooLong
    (case uCaptures => k_is)
    (case uFetches => k_is)
    (case uOffers => k_is)
    (case uSources => k_is)
    (case uHoldings => k_is)
    (case uReply => k_is)
    (case uBadMessage => k_is)
    (case uMessageTooLong => k_is)
    (case a1 => k_is)
    (case l1 => k_is)
    (case c1 => k_is)
    (case k1 => k_is)
    (case a2 => k_is)
    (case l2 => k_is)
    (case c2 => k_is)
    (case k2 => k_is)
    (case a3 => k_is)
    (case l3 => k_is)
    (case c3 => k_is)
    (case k3 => k_is)
    (case a4 => k_is)
    (case l4 => k_is)
    (case c4 => k_is)
    (case k4 => k_is)
    (case a5 => k_is)
    (case l5 => k_is)
    (case c5 => k_is)
    (case k5 => k_is)
    (case a6 => k_is)
    (case l6 => k_is)
    (case c6 => k_is)
    (case k6 => k_is)
    (case a7 => k_is)
    (case l7 => k_is)
    (case c7 => k_is)
    (case k7 => k_is)
    (case a8 => k_is)
    (case l8 => k_is)
    (case c8 => k_is)
    (case k8 => k_is)
    (case a9 => k_is)
    (case l9 => k_is)
    (case c9 => k_is)
    (case k9 => k_is)
    (case a10 => k_is)
    (case l10 => k_is)
    (case c10 => k_is)
    (case k10 => k_is)
    (case a11 => k_is)
    (case l11 => k_is)
    (case c11 => k_is)
    (case k11 => k_is)
    (case a12 => k_is)
    (case l12 => k_is)
    (case c12 => k_is)
    (case k12 => k_is)
    (case a13 => k_is)
    (case l13 => k_is)
    (case c13 => k_is)
    (case k13 => k_is)
    (case a14 => k_is)
    (case l14 => k_is)
    (case c14 => k_is)
    (case k14 => k_is)
    (case a15 => k_is)
    (case l15 => k_is)
    (case c15 => k_is)
    (case k15 => k_is)
    (case a16 => k_is)
    (case l16 => k_is)
    (case c16 => k_is)
    (case k16 => k_is)
    (case a17 => k_is)
    (case l17 => k_is)
    (case c17 => k_is)
    (case k17 => k_is)
    (case a18 => k_is)
    (case l18 => k_is)
    (case c18 => k_is)
    (case k18 => k_is)
    (case a19 => k_is)
    (case l19 => k_is)
    (case c19 => k_is)
    (case k19 => k_is)
    (case a20 => k_is)
    (case i20 => k_is)
    (case l20 => k_is)
    (case c20 => k_is)
    (case k20 => k_is)
    (case a21 => k_is)
    (case i21 => k_is)
    (case l21 => k_is)
    (case c21 => k_is)
    (case k21 => k_is)
    (case a22 => k_is)
    (case i22 => k_is)
    (case l22 => k_is)
    (case c22 => k_is)
    (case k22 => k_is)
    (case a23 => k_is)
    (case i23 => k_is)
    (case l23 => k_is)
    (case c23 => k_is)
    (case k23 => k_is)
    (case a24 => k_is)
    (case i24 => k_is)
    (case l24 => k_is)
    (case c24 => k_is)
    (case k24 => k_is)
    (case a25 => k_is)
    (case i25 => k_is)
    (case l25 => k_is)
    (case c25 => k_is)
    (case k25 => k_is)
    (case a26 => k_is)
    (case i26 => k_is)
    (case l26 => k_is)
    (case c26 => k_is)
    (case k26 => k_is)
    (case a27 => k_is)
    (case i27 => k_is)
    (case l27 => k_is)
    (case c27 => k_is)
    (case k27 => k_is)
    (case a28 => k_is)
    (case i28 => k_is)
    (case l28 => k_is)
    (case c28 => k_is)
    (case k28 => k_is)
    (case a29 => k_is)
    (case i29 => k_is)
    (case l29 => k_is)
    (case c29 => k_is)
    (case k29 => k_is)
    (case a30 => k_is)
    (case i30 => k_is)
    (case l30 => k_is)
    (case c30 => k_is)
    (case k30 => k_is)
    (case a31 => k_is)
    (case i31 => k_is)
    (case l31 => k_is)
    (case c31 => k_is)
    (case k31 => k_is)
    (case a32 => k_is)
    (case i32 => k_is)
    (case l32 => k_is)
    (case c32 => k_is)
    (case k32 => k_is)
    (case a33 => k_is)
    (case i33 => k_is)
    (case l33 => k_is)
    (case c33 => k_is)
    (case k33 => k_is)
    (case a34 => k_is)
    (case i34 => k_is)
    (case l34 => k_is)
    (case c34 => k_is)
    (case k34 => k_is)
    (case a35 => k_is)
    (case i35 => k_is)
    (case l35 => k_is)
    (case c35 => k_is)
    (case k35 => k_is)
    (case a36 => k_is)
    (case i36 => k_is)
    (case l36 => k_is)
    (case c36 => k_is)
    (case k36 => k_is)
    (case a37 => k_is)
    (case i37 => k_is)
    (case l37 => k_is)
    (case c37 => k_is)
    (case k37 => k_is)
    (case a38 => k_is)
    (case i38 => k_is)
    (case l38 => k_is)
    (case c38 => k_is)
    (case k38 => k_is)
    (case a39 => k_is)
    (case i39 => k_is)
    (case l39 => k_is)
    (case c39 => k_is)
    (case k39 => k_is)
    (case a40 => k_is)
    (case i40 => k_is)
    (case l40 => k_is)
    (case c40 => k_is)
    (case k40 => k_is)
    (case a41 => k_is)
    (case i41 => k_is)
    (case l41 => k_is)
    (case c41 => k_is)
    (case k41 => k_is)
    (case a42 => k_is)
    (case i42 => k_is)
    (case l42 => k_is)
    (case c42 => k_is)
    (case k42 => k_is)
    (case a43 => k_is)
    (case i43 => k_is)
    (case l43 => k_is)
    (case c43 => k_is)
    (case k43 => k_is)
    (case z_all => k_is)
    (case z_bool => k_is)
    (case z_int => k_is)
    (case z_isinstance => k_is)
    (case z_len => k_is)
    (case z_list => k_is)
    (case z_min => k_is)
    (case z_ord => k_is)
    (case z_range => k_is)
    (case z_str => k_is)
    (case z_tuple => k_is)
    (case z_zip => k_is)
    (case q_GREATEST_NUMBER => k_is)
    (case q_LEAST_INT => k_is)
    (case q_GREATEST_INT => k_is)
    (case q_LONGEST_TEXT_fields => k_is)
    (case q_MOST_OCTETS_fields => k_is)
    (case q__FIRST_CODE => k_is)
    (case q__LAST_CODE => k_is)
    (case q__PERCENT_CODE => k_is)
    (case q_HEADER_SIZE => k_is)
    (case q_GREATEST_SIZE => k_is)
    (case q_GREATEST_OPCODE => k_is)
    (case q_MOST_ARGUMENTS => k_is)
    (case q__EVENTS => k_is)
    (case dl_EVENTS => k_is)
    (case dk_EVENTS => k_keys)
    (case de_EVENTS_k0 => k_is)
    (case de_EVENTS_k1 => k_is)
    (case de_EVENTS_k2 => k_is)
    (case de_EVENTS_k3 => k_is)
    (case de_EVENTS_k4 => k_is)
    (case de_EVENTS_k5 => k_is)
    (case de_EVENTS_k6 => k_is)
    (case de_EVENTS_k7 => k_is)
    (case de_EVENTS_k8 => k_is)
    (case de_EVENTS_k9 => k_is)
    (case de_EVENTS_k10 => k_is)
    (case de_EVENTS_k11 => k_is)
    (case de_EVENTS_k12 => k_is)
    (case de_EVENTS_k13 => k_is)
    (case w_EVENTS_k0 => k_is)
    (case w_EVENTS_k0_0 => k_is)
    (case w_EVENTS_k0_0_1 => k_is)
    (case w_EVENTS_k0_1 => k_is)
    (case w_EVENTS_k0_1_1 => k_is)
    (case w_EVENTS_k1 => k_is)
    (case w_EVENTS_k1_0 => k_is)
    (case w_EVENTS_k1_0_1 => k_is)
    (case w_EVENTS_k2 => k_is)
    (case w_EVENTS_k2_0 => k_is)
    (case w_EVENTS_k2_0_1 => k_is)
    (case w_EVENTS_k2_1 => k_is)
    (case w_EVENTS_k2_1_1 => k_is)
    (case w_EVENTS_k3 => k_is)
    (case w_EVENTS_k3_0 => k_is)
    (case w_EVENTS_k3_0_1 => k_is)
    (case w_EVENTS_k4 => k_is)
    (case w_EVENTS_k4_0 => k_is)
    (case w_EVENTS_k4_0_1 => k_is)
    (case w_EVENTS_k5 => k_is)
    (case w_EVENTS_k5_0 => k_is)
    (case w_EVENTS_k5_0_1 => k_is)
    (case w_EVENTS_k5_1 => k_is)
    (case w_EVENTS_k5_1_1 => k_is)
    (case w_EVENTS_k5_2 => k_is)
    (case w_EVENTS_k5_2_1 => k_is)
    (case w_EVENTS_k5_3 => k_is)
    (case w_EVENTS_k5_3_1 => k_is)
    (case w_EVENTS_k6 => k_is)
    (case w_EVENTS_k6_0 => k_is)
    (case w_EVENTS_k6_0_1 => k_is)
    (case w_EVENTS_k6_1 => k_is)
    (case w_EVENTS_k6_1_1 => k_is)
    (case w_EVENTS_k7 => k_is)
    (case w_EVENTS_k7_0 => k_is)
    (case w_EVENTS_k7_0_1 => k_is)
    (case w_EVENTS_k7_1 => k_is)
    (case w_EVENTS_k7_1_1 => k_is)
    (case w_EVENTS_k7_2 => k_is)
    (case w_EVENTS_k7_2_1 => k_is)
    (case w_EVENTS_k7_3 => k_is)
    (case w_EVENTS_k7_3_1 => k_is)
    (case w_EVENTS_k7_4 => k_is)
    (case w_EVENTS_k7_4_1 => k_is)
    (case w_EVENTS_k8 => k_is)
    (case w_EVENTS_k8_0 => k_is)
    (case w_EVENTS_k8_0_1 => k_is)
    (case w_EVENTS_k8_1 => k_is)
    (case w_EVENTS_k8_1_1 => k_is)
    (case w_EVENTS_k8_2 => k_is)
    (case w_EVENTS_k8_2_1 => k_is)
    (case w_EVENTS_k8_3 => k_is)
    (case w_EVENTS_k8_3_1 => k_is)
    (case w_EVENTS_k8_4 => k_is)
    (case w_EVENTS_k8_4_1 => k_is)
    (case w_EVENTS_k9 => k_is)
    (case w_EVENTS_k9_0 => k_is)
    (case w_EVENTS_k9_0_1 => k_is)
    (case w_EVENTS_k9_1 => k_is)
    (case w_EVENTS_k9_1_1 => k_is)
    (case w_EVENTS_k9_2 => k_is)
    (case w_EVENTS_k9_2_1 => k_is)
    (case w_EVENTS_k9_3 => k_is)
    (case w_EVENTS_k9_3_1 => k_is)
    (case w_EVENTS_k9_4 => k_is)
    (case w_EVENTS_k9_4_1 => k_is)
    (case w_EVENTS_k9_5 => k_is)
    (case w_EVENTS_k9_5_1 => k_is)
    (case w_EVENTS_k10 => k_is)
    (case w_EVENTS_k10_0 => k_is)
    (case w_EVENTS_k10_0_1 => k_is)
    (case w_EVENTS_k10_1 => k_is)
    (case w_EVENTS_k10_1_1 => k_is)
    (case w_EVENTS_k11 => k_is)
    (case w_EVENTS_k11_0 => k_is)
    (case w_EVENTS_k11_0_1 => k_is)
    (case w_EVENTS_k11_1 => k_is)
    (case w_EVENTS_k11_1_1 => k_is)
    (case w_EVENTS_k11_2 => k_is)
    (case w_EVENTS_k11_2_1 => k_is)
    (case w_EVENTS_k12 => k_is)
    (case w_EVENTS_k12_0 => k_is)
    (case w_EVENTS_k12_0_1 => k_is)
    (case w_EVENTS_k12_1 => k_is)
    (case w_EVENTS_k12_1_1 => k_is)
    (case w_EVENTS_k12_2 => k_is)
    (case w_EVENTS_k12_2_1 => k_is)
    (case w_EVENTS_k13 => k_is)
    (case w_EVENTS_k13_0 => k_is)
    (case w_EVENTS_k13_0_1 => k_is)
    (case w_EVENTS_k13_1 => k_is)
    (case w_EVENTS_k13_1_1 => k_is)
    (case pgCaptures => k_is)
    (case hdCaptures => k_is)
    (case poCaptures => k_is)
    (case saCaptures => k_is)
    (case mkCaptures => k_is)
    (case kcCaptures => k_is)
    (case nCaptures__pictures => k_is)
    (case pgFetches => k_is)
    (case hdFetches => k_is)
    (case poFetches => k_is)
    (case saFetches => k_is)
    (case mkFetches => k_is)
    (case kcFetches => k_is)
    (case nFetches__fetches => k_is)
    (case nFetches__watches => k_is)
    (case pgOffers => k_is)
    (case hdOffers => k_is)
    (case poOffers => k_is)
    (case saOffers => k_is)
    (case mkOffers => k_is)
    (case kcOffers => k_is)
    (case nOffers__transfers => k_is)
    (case nOffers__kept => k_is)
    (case nOffers__is_hovered => k_is)
    (case pgSources => k_is)
    (case hdSources => k_is)
    (case poSources => k_is)
    (case saSources => k_is)
    (case mkSources => k_is)
    (case kcSources => k_is)
    (case nSources__sources => k_is)
    (case pgHoldings => k_is)
    (case hdHoldings => k_is)
    (case poHoldings => k_is)
    (case saHoldings => k_is)
    (case mkHoldings => k_is)
    (case kcHoldings => k_is)
    (case nHoldings__sources => k_is)
    (case nHoldings__offers => k_is)
    (case nHoldings__captures => k_is)
    (case nHoldings__fetches => k_is)
    (case nHoldings__sent_names => k_is)
    (case pgReply => k_is)
    (case hdReply => k_is)
    (case poReply => k_is)
    (case saReply => k_is)
    (case mkReply => k_is)
    (case kcReply => k_is)
    (case nReply_told => k_is)
    (case nReply_ended => k_is)
    (case nReply_wishes => k_is)
    (case nReply_applied => k_is)
    (case xBadMessage => k_exc)
    (case keBadMessage => k_is)
    (case bxBadMessage => k_is)
    (case txBadMessage => k_is)
    (case ixBadMessage => k_is)
    (case sxBadMessage => first | rfl | k_is)
    (case xMessageTooLong => k_exc)
    (case keMessageTooLong => k_is)
    (case bxMessageTooLong => k_is)
    (case txMessageTooLong => k_is)
    (case ixMessageTooLong => k_is)
    (case sxMessageTooLong => first | rfl | k_is)
