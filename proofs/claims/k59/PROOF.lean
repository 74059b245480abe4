import PyProof.Rows.All
import Wide.All
import OpenK.AllK
import Wide.FinOn
import HandS.ForMost
import HandS.Exc
import HandS.TryOnly
import HandS.ExcOwn
import HandS.WordsExc
import HandS.IsInst
import HandS.Wide
import HandS.Flow
import HandS.More
import HandS.Codes
import HandS.Walk
import HandS.TupLe
import HandS.WordsDict
import HandS.Conv
import HandS.TryMany
import HandS.ExcIs
import KE.KBits
import HandS.CallLocal
import HandS.Strs
import HandS.SetFor
import HandS.Set
import HandS.Property
import PySem.Challenge.RW_sillwatch_k59_exchange_deeds
set_option Elab.async false
set_option linter.all false
set_option maxRecDepth 100000
set_option maxHeartbeats 4000000
namespace My
open PySem L2
def topS (i : Nat) : Stmt := PySem.Challenge.pw_sillwatch_k59_exchange_deeds.main.body.getD i (.Pass ⟨0, 0, 0, 0⟩)
abbrev s__of_others : Stmt := topS 4
abbrev s__copied : Stmt := topS 5
abbrev s__law_cell : Stmt := topS 7
abbrev s__law_row : Stmt := topS 8
abbrev s__law_front : Stmt := topS 9
abbrev s__law_asked : Stmt := topS 10
abbrev s__law_give : Stmt := topS 11
abbrev s__law_send : Stmt := topS 12
abbrev s__law_ask : Stmt := topS 13
abbrev s__law_hover : Stmt := topS 14
abbrev s__law_end : Stmt := topS 15
abbrev s__law_same : Stmt := topS 16
abbrev s_law : Stmt := topS 17
abbrev s_Asked___init__ : Stmt := inClass (topS 2) 0
abbrev s_Exchange___init__ : Stmt := inClass (topS 3) 0
abbrev s_Exchange_give : Stmt := inClass (topS 3) 1
abbrev s_Exchange_drag : Stmt := inClass (topS 3) 2
abbrev s_Exchange_send : Stmt := inClass (topS 3) 3
abbrev s_Exchange_unsend : Stmt := inClass (topS 3) 4
abbrev s_Exchange_ask : Stmt := inClass (topS 3) 5
abbrev s_Exchange_hover : Stmt := inClass (topS 3) 6
abbrev s_Exchange_ended : Stmt := inClass (topS 3) 7
abbrev s_Exchange_relabelled : Stmt := inClass (topS 3) 8
abbrev s_Exchange_withdraw : Stmt := inClass (topS 3) 9
structure Adr where
  f_of_others : Addr
  d_of_others : FuncData
  f_copied : Addr
  d_copied : FuncData
  f_law_cell : Addr
  d_law_cell : FuncData
  f_law_row : Addr
  d_law_row : FuncData
  f_law_front : Addr
  d_law_front : FuncData
  f_law_asked : Addr
  d_law_asked : FuncData
  f_law_give : Addr
  d_law_give : FuncData
  f_law_send : Addr
  d_law_send : FuncData
  f_law_ask : Addr
  d_law_ask : FuncData
  f_law_hover : Addr
  d_law_hover : FuncData
  f_law_end : Addr
  d_law_end : FuncData
  f_law_same : Addr
  d_law_same : FuncData
  flaw : Addr
  dlaw : FuncData
  fAsked___init__ : Addr
  dAsked___init__ : FuncData
  fExchange___init__ : Addr
  dExchange___init__ : FuncData
  fExchange_give : Addr
  dExchange_give : FuncData
  fExchange_drag : Addr
  dExchange_drag : FuncData
  fExchange_send : Addr
  dExchange_send : FuncData
  fExchange_unsend : Addr
  dExchange_unsend : FuncData
  fExchange_ask : Addr
  dExchange_ask : FuncData
  fExchange_hover : Addr
  dExchange_hover : FuncData
  fExchange_ended : Addr
  dExchange_ended : FuncData
  fExchange_relabelled : Addr
  dExchange_relabelled : FuncData
  fExchange_withdraw : Addr
  dExchange_withdraw : FuncData
  CAsked : Addr
  CExchange : Addr
structure Txt (K : PySem.W.Frag) (mg : Str → Option Value) (A : Adr) : Prop where
  F_of_others : Fun K "_of_others" "_of_others" s__of_others A.f_of_others A.d_of_others
  b_of_others : Binds K A.d_of_others ["rows", "slot"] []
  g_of_others : mg "_of_others" = some (.ref A.f_of_others)
  k_of_others : PySem.W.keepIn K (.ref A.f_of_others) = true
  F_copied : Fun K "_copied" "_copied" s__copied A.f_copied A.d_copied
  b_copied : Binds K A.d_copied ["goods"] []
  g_copied : mg "_copied" = some (.ref A.f_copied)
  k_copied : PySem.W.keepIn K (.ref A.f_copied) = true
  F_law_cell : Fun K "_law_cell" "_law_cell" s__law_cell A.f_law_cell A.d_law_cell
  b_law_cell : Binds K A.d_law_cell ["script", "k"] []
  g_law_cell : mg "_law_cell" = some (.ref A.f_law_cell)
  k_law_cell : PySem.W.keepIn K (.ref A.f_law_cell) = true
  F_law_row : Fun K "_law_row" "_law_row" s__law_row A.f_law_row A.d_law_row
  b_law_row : Binds K A.d_law_row ["script", "k"] []
  g_law_row : mg "_law_row" = some (.ref A.f_law_row)
  k_law_row : PySem.W.keepIn K (.ref A.f_law_row) = true
  F_law_front : Fun K "_law_front" "_law_front" s__law_front A.f_law_front A.d_law_front
  b_law_front : Binds K A.d_law_front ["rows", "slot", "goods"] []
  g_law_front : mg "_law_front" = some (.ref A.f_law_front)
  k_law_front : PySem.W.keepIn K (.ref A.f_law_front) = true
  F_law_asked : Fun K "_law_asked" "_law_asked" s__law_asked A.f_law_asked A.d_law_asked
  b_law_asked : Binds K A.d_law_asked ["exchange"] []
  g_law_asked : mg "_law_asked" = some (.ref A.f_law_asked)
  k_law_asked : PySem.W.keepIn K (.ref A.f_law_asked) = true
  F_law_give : Fun K "_law_give" "_law_give" s__law_give A.f_law_give A.d_law_give
  b_law_give : Binds K A.d_law_give ["exchange", "model", "deed", "slot", "row"] []
  g_law_give : mg "_law_give" = some (.ref A.f_law_give)
  k_law_give : PySem.W.keepIn K (.ref A.f_law_give) = true
  F_law_send : Fun K "_law_send" "_law_send" s__law_send A.f_law_send A.d_law_send
  b_law_send : Binds K A.d_law_send ["exchange", "model", "deed", "slot", "row"] []
  g_law_send : mg "_law_send" = some (.ref A.f_law_send)
  k_law_send : PySem.W.keepIn K (.ref A.f_law_send) = true
  F_law_ask : Fun K "_law_ask" "_law_ask" s__law_ask A.f_law_ask A.d_law_ask
  b_law_ask : Binds K A.d_law_ask ["exchange", "model", "deed", "slot", "row"] []
  g_law_ask : mg "_law_ask" = some (.ref A.f_law_ask)
  k_law_ask : PySem.W.keepIn K (.ref A.f_law_ask) = true
  F_law_hover : Fun K "_law_hover" "_law_hover" s__law_hover A.f_law_hover A.d_law_hover
  b_law_hover : Binds K A.d_law_hover ["exchange", "model", "slot", "row"] []
  g_law_hover : mg "_law_hover" = some (.ref A.f_law_hover)
  k_law_hover : PySem.W.keepIn K (.ref A.f_law_hover) = true
  F_law_end : Fun K "_law_end" "_law_end" s__law_end A.f_law_end A.d_law_end
  b_law_end : Binds K A.d_law_end ["exchange", "model", "deed", "slot"] []
  g_law_end : mg "_law_end" = some (.ref A.f_law_end)
  k_law_end : PySem.W.keepIn K (.ref A.f_law_end) = true
  F_law_same : Fun K "_law_same" "_law_same" s__law_same A.f_law_same A.d_law_same
  b_law_same : Binds K A.d_law_same ["exchange", "model"] []
  g_law_same : mg "_law_same" = some (.ref A.f_law_same)
  k_law_same : PySem.W.keepIn K (.ref A.f_law_same) = true
  Flaw : Fun K "law" "law" s_law A.flaw A.dlaw
  blaw : Binds K A.dlaw ["script"] []
  glaw : mg "law" = some (.ref A.flaw)
  klaw : PySem.W.keepIn K (.ref A.flaw) = true
  FAsked___init__ : Fun K "__init__" "Asked.__init__" s_Asked___init__ A.fAsked___init__ A.dAsked___init__
  bAsked___init__ : Binds K A.dAsked___init__ ["self", "number", "slot", "capture", "output", "x", "y", "width", "height"] []
  MAsked : Mk K A.CAsked A.fAsked___init__
  FExchange___init__ : Fun K "__init__" "Exchange.__init__" s_Exchange___init__ A.fExchange___init__ A.dExchange___init__
  bExchange___init__ : Binds K A.dExchange___init__ ["self"] []
  MExchange : Mk K A.CExchange A.fExchange___init__
  FExchange_give : Fun K "give" "Exchange.give" s_Exchange_give A.fExchange_give A.dExchange_give
  bExchange_give : Binds K A.dExchange_give ["self", "slot", "goods", "primary"] []
  mExchange_give : Meth K A.CExchange "give" A.fExchange_give
  FExchange_drag : Fun K "drag" "Exchange.drag" s_Exchange_drag A.fExchange_drag A.dExchange_drag
  bExchange_drag : Binds K A.dExchange_drag ["self", "slot", "goods"] []
  mExchange_drag : Meth K A.CExchange "drag" A.fExchange_drag
  FExchange_send : Fun K "send" "Exchange.send" s_Exchange_send A.fExchange_send A.dExchange_send
  bExchange_send : Binds K A.dExchange_send ["self", "slot", "name", "octets"] []
  mExchange_send : Meth K A.CExchange "send" A.fExchange_send
  FExchange_unsend : Fun K "unsend" "Exchange.unsend" s_Exchange_unsend A.fExchange_unsend A.dExchange_unsend
  bExchange_unsend : Binds K A.dExchange_unsend ["self", "slot", "name"] []
  mExchange_unsend : Meth K A.CExchange "unsend" A.fExchange_unsend
  FExchange_ask : Fun K "ask" "Exchange.ask" s_Exchange_ask A.fExchange_ask A.dExchange_ask
  bExchange_ask : Binds K A.dExchange_ask ["self", "slot", "capture", "output", "x", "y", "width", "height"] []
  mExchange_ask : Meth K A.CExchange "ask" A.fExchange_ask
  FExchange_hover : Fun K "hover" "Exchange.hover" s_Exchange_hover A.fExchange_hover A.dExchange_hover
  bExchange_hover : Binds K A.dExchange_hover ["self", "target"] []
  mExchange_hover : Meth K A.CExchange "hover" A.fExchange_hover
  FExchange_ended : Fun K "ended" "Exchange.ended" s_Exchange_ended A.fExchange_ended A.dExchange_ended
  bExchange_ended : Binds K A.dExchange_ended ["self", "slot"] []
  mExchange_ended : Meth K A.CExchange "ended" A.fExchange_ended
  FExchange_relabelled : Fun K "relabelled" "Exchange.relabelled" s_Exchange_relabelled A.fExchange_relabelled A.dExchange_relabelled
  bExchange_relabelled : Binds K A.dExchange_relabelled ["self", "slot"] []
  mExchange_relabelled : Meth K A.CExchange "relabelled" A.fExchange_relabelled
  FExchange_withdraw : Fun K "withdraw" "Exchange.withdraw" s_Exchange_withdraw A.fExchange_withdraw A.dExchange_withdraw
  bExchange_withdraw : Binds K A.dExchange_withdraw ["self", "slot", "capture"] []
  mExchange_withdraw : Meth K A.CExchange "withdraw" A.fExchange_withdraw
  int : mg "int" = none
  len : mg "len" = none
  list : mg "list" = none
  min : mg "min" = none
  range : mg "range" = none
  str : mg "str" = none
  clAsked : Cls K A.CAsked
  gAsked : mg "Asked" = some (.ref A.CAsked)
  nAsked_number : NoAttr K A.CAsked "number"
  nAsked_slot : NoAttr K A.CAsked "slot"
  nAsked_capture : NoAttr K A.CAsked "capture"
  nAsked_output : NoAttr K A.CAsked "output"
  nAsked_x : NoAttr K A.CAsked "x"
  nAsked_y : NoAttr K A.CAsked "y"
  nAsked_width : NoAttr K A.CAsked "width"
  nAsked_height : NoAttr K A.CAsked "height"
  clExchange : Cls K A.CExchange
  gExchange : mg "Exchange" = some (.ref A.CExchange)
  nExchange_gifts : NoAttr K A.CExchange "gifts"
  nExchange_primary : NoAttr K A.CExchange "primary"
  nExchange_drags : NoAttr K A.CExchange "drags"
  nExchange_sent : NoAttr K A.CExchange "sent"
  nExchange_asked : NoAttr K A.CExchange "asked"
  nExchange_count : NoAttr K A.CExchange "count"
  nExchange_hovered : NoAttr K A.CExchange "hovered"
section
variable {P : Program} {w : World} {K : PySem.W.Frag} {mg : Str → Option Value} {base : Heap} {A : Adr}
/-! ### common: tests, errors, small words -/
theorem exm_self {K : PySem.W.Frag} {S : Addr} (h1 : PySem.W.subIn K (.ref S) (.type "BaseException") = some true) (h2 : PySem.W.isClsIn K S = true) (h3 : PySem.W.typeIn K (.ref S) = some (.type "type")) (h4 : PySem.W.subIn K (.ref S) (.ref S) = some true) :
    PySem.W.exmOne K (.ref S) (.ref S) = some true := by
  have g1 : (PySem.W.subIn K (.ref S) (.type "BaseException") == some true) = true := by rw [h1]; rfl
  have g0 : (PySem.W.clsIn K S).isSome = true := h2
  have g2 : ((PySem.W.clsIn K S).isSome && PySem.W.typeIn K (.ref S) == some (.type "type")) = true := by rw [g0, h3]; rfl
  show (if (PySem.W.subIn K (.ref S) (.type "BaseException") == some true) = true then (if ((PySem.W.clsIn K S).isSome && PySem.W.typeIn K (.ref S) == some (.type "type")) = true then PySem.W.subIn K (.ref S) (.ref S) else none) else none) = some true
  rw [if_pos g1, if_pos g2]
  exact h4
theorem exm_cross {K : PySem.W.Frag} {S R : Addr} {b : Bool} (h1 : PySem.W.subIn K (.ref S) (.type "BaseException") = some true) (h2 : PySem.W.isClsIn K S = true) (h3 : PySem.W.typeIn K (.ref S) = some (.type "type")) (h4 : PySem.W.subIn K (.ref R) (.ref S) = some b) :
    PySem.W.exmOne K (.ref R) (.ref S) = some b := by
  have g1 : (PySem.W.subIn K (.ref S) (.type "BaseException") == some true) = true := by rw [h1]; rfl
  have g0 : (PySem.W.clsIn K S).isSome = true := h2
  have g2 : ((PySem.W.clsIn K S).isSome && PySem.W.typeIn K (.ref S) == some (.type "type")) = true := by rw [g0, h3]; rfl
  show (if (PySem.W.subIn K (.ref S) (.type "BaseException") == some true) = true then (if ((PySem.W.clsIn K S).isSome && PySem.W.typeIn K (.ref S) == some (.type "type")) = true then PySem.W.subIn K (.ref R) (.ref S) else none) else none) = some b
  rw [if_pos g1, if_pos g2]
  exact h4
/-- the law's own promise -/
def sp_law (K : PySem.W.Frag) : Sp := fun vs H Q _ => ∃ (a : Addr) (ns : List Int), vs = [.ref a] ∧ SqL K H a (ns.map V.int) ∧ ns.length ≤ 63 ∧ ∀ H', Q (.bl true) H'
theorem iteP {p A B : Prop} [Decidable p] (h1 : p → A) (h2 : ¬ p → B) : if decide p = true then A else B := by
  by_cases h : p
  · rw [decide_eq_true h]; exact iteT (h1 h)
  · rw [decide_eq_false h]; exact iteF (h2 h)
theorem iteN {p A B : Prop} [Decidable p] (h1 : ¬ p → A) (h2 : p → B) : if (!decide p) = true then A else B := by
  by_cases h : p
  · rw [decide_eq_true h]; exact iteF (h2 h)
  · rw [decide_eq_false h]; exact iteT (h1 h)
theorem iteEq {i j : Int} {A B : Prop} (h1 : i = j → A) (h2 : i ≠ j → B) : if decide (V.int i = V.int j) = true then A else B :=
  iteP (fun h => h1 (V.int.inj h)) (fun h => h2 fun e => h (congrArg V.int e))
theorem iteNe {i j : Int} {A B : Prop} (h1 : i ≠ j → A) (h2 : i = j → B) : if (!decide (V.int i = V.int j)) = true then A else B :=
  iteN (fun h => h1 fun e => h (congrArg V.int e)) (fun h => h2 (V.int.inj h))
theorem if_t {b : Bool} {A B : Prop} (e : b = true) (h : A) : if b = true then A else B := by rw [if_pos e]; exact h
theorem if_f {b : Bool} {A B : Prop} (e : b = false) (h : B) : if b = true then A else B := by rw [e]; exact iteF h
theorem if_b {b : Bool} {A B : Prop} (h1 : b = true → A) (h2 : b = false → B) : if b = true then A else B := by
  cases b with
  | true => exact iteT (h1 rfl)
  | false => exact iteF (h2 rfl)
theorem same_upd {H : Hp} {p : Addr} {o : HO} (h : H p = none) : Same H (upd H p o) := fun b x e => by
  rw [upd_ne (ne_of_none e h)]
  exact e
theorem len_line {n : Nat} (h : n ≤ 100000) : n ≤ sizeLine := Nat.le_trans h (by decide)
theorem lt_line {n : Nat} (h : n < 100000) : n < sizeLine := Nat.lt_of_lt_of_le h (by decide)
local macro_rules | `(tactic| walk_at "rd") => `(tactic| repeat (first
  | refine ⟨_, rfl, ?_⟩
  | refine ⟨_, _, rfl, rfl, ?_⟩
  | refine ⟨rfl, ?_⟩
  | refine Or.inl ⟨_, rfl, ?_⟩
  | refine ⟨(by show (0 : Int) < _; decide), ?_⟩
  | refine ⟨(⟨by decide, by decide⟩ : CDiv _ _), ?_⟩
  | refine ⟨(Or.inl ⟨by decide, by decide⟩ : CMul _ _), ?_⟩
  | refine ⟨(Or.inr ⟨by decide, by decide⟩ : CMul _ _), ?_⟩))
/-! ### data that are compared -/
def Sh (n : Nat) (d : PyData) : Prop := d.canLay0 = true ∧ d.depth ≤ n
theorem Sh.mono {n m : Nat} {d : PyData} (h : Sh n d) (l : n ≤ m) : Sh m d := ⟨h.1, Nat.le_trans h.2 l⟩
theorem sh_all : ∀ {n : Nat} {ds : List PyData}, (∀ d ∈ ds, Sh n d) → PyData.canLayAll0 ds = true ∧ PyData.depthAll ds ≤ n
  | n, [], _ => ⟨by simp [PyData.canLayAll0], by simp [PyData.depthAll]⟩
  | n, d :: ds, h => by
    have h1 := h d List.mem_cons_self
    have h2 := sh_all fun e he => h e (List.mem_cons_of_mem _ he)
    refine ⟨?_, ?_⟩
    · simp only [PyData.canLayAll0, Bool.and_eq_true]; exact ⟨h1.1, h2.1⟩
    · simp only [PyData.depthAll]; exact Nat.max_le.mpr ⟨h1.2, h2.2⟩
theorem sh_list {n : Nat} {ds : List PyData} (h : ∀ d ∈ ds, Sh n d) : Sh (n + 1) (.list ds) := by
  have q := sh_all h
  exact ⟨by simp only [PyData.canLay0]; exact q.1, by simp only [PyData.depth]; exact Nat.succ_le_succ q.2⟩
theorem sh_tuple {n : Nat} {ds : List PyData} (h : ∀ d ∈ ds, Sh n d) : Sh (n + 1) (.tuple ds) := by
  have q := sh_all h
  exact ⟨by simp only [PyData.canLay0]; exact q.1, by simp only [PyData.depth]; exact Nat.succ_le_succ q.2⟩
theorem sh_int (i : Int) : Sh 0 (.int i) := ⟨by simp [PyData.canLay0], by simp [PyData.depth]⟩
theorem sh_bool (i : Bool) : Sh 0 (.bool i) := ⟨by simp [PyData.canLay0], by simp [PyData.depth]⟩
theorem sh_none : Sh 0 .none := ⟨by simp [PyData.canLay0], by simp [PyData.depth]⟩
theorem sh_str {s : Str} (h : PyData.strOk s = true) : Sh 0 (.str s) := ⟨by simp only [PyData.canLay0]; exact h, by simp [PyData.depth]⟩
theorem Sh.shaped {n : Nat} {d : PyData} (h : Sh n d) (l : n ≤ 64 := by decide) : SeqAt.shaped d = true := by
  show (d.canLay0 && decide (d.depth ≤ 64)) = true
  rw [h.1, decide_eq_true (Nat.le_trans h.2 l)]
  rfl
theorem Sh.self {n : Nat} {d : PyData} (h : Sh n d) : PyData.eqv d d = true := SeqAt.eqv_refl d h.1
def pInts (xs : List Int) : PyData := .list (xs.map PyData.int)
theorem sh_ints (xs : List Int) : Sh 1 (pInts xs) := sh_list fun d hd => by
  obtain ⟨i, _, rfl⟩ := List.mem_map.mp hd
  exact sh_int i
theorem dpall_ints {K : PySem.W.Frag} {H : Hp} : ∀ xs : List Int, DpAll K H (xs.map V.int) (xs.map PyData.int)
  | [] => .nil
  | x :: r => .cons (.int x) (dpall_ints r)
theorem dp_ints {K : PySem.W.Frag} {H : Hp} {p : Addr} {xs : List Int} (h : SqL K H p (xs.map V.int)) : Dp K H (.ref p) (pInts xs) := .lst h (dpall_ints xs)
/-! ### views: what is new, what stands -/
structure Ext (V H V' H' : Hp) : Prop where
  vv : Same V V'
  vh : Same V' H'
  hh : Same H H'
  nw : ∀ a, V' a ≠ none → V a ≠ none ∨ H a = none
theorem Ext.refl {V H : Hp} (h : Same V H) : Ext V H V H := ⟨Same.refl V, h, Same.refl H, fun _ h => Or.inl h⟩
theorem Ext.trans {V H V1 H1 V2 H2 : Hp} (a : Ext V H V1 H1) (b : Ext V1 H1 V2 H2) : Ext V H V2 H2 :=
  ⟨a.vv.trans b.vv, b.vh, a.hh.trans b.hh, fun x h => by
    rcases b.nw x h with q | q
    · exact a.nw x q
    · exact Or.inr (a.hh.free q)⟩
theorem none_of_same {V H : Hp} {p : Addr} (s : Same V H) (h : H p = none) : V p = none := s.free h
theorem Ext.new {V H : Hp} {p : Addr} {o : HO} (s : Same V H) (h : H p = none) : Ext V H (upd V p o) (upd H p o) :=
  ⟨same_upd (s.free h), fun b u e => by
    by_cases hb : b = p
    · subst hb; rw [upd_same] at e ⊢; exact e
    · rw [upd_ne hb] at e ⊢; exact s b u e, same_upd h, fun a e => by
    by_cases ha : a = p
    · subst ha; exact Or.inr h
    · rw [upd_ne ha] at e; exact Or.inl e⟩
/-- a new object that the view does not take in -/
theorem Ext.skip {V H : Hp} {p : Addr} {o : HO} (s : Same V H) (h : H p = none) : Ext V H V (upd H p o) :=
  ⟨Same.refl V, s.trans (same_upd h), same_upd h, fun _ e => Or.inl e⟩
theorem Ext.keepOut {V H V' H' : Hp} (x : Ext V H V' H') {D : Addr} (h : V D = none) (hd : H D ≠ none) : V' D = none := by
  cases e : V' D with
  | none => rfl
  | some o =>
    rcases x.nw D (by rw [e]; exact fun z => by cases z) with q | q
    · exact absurd h q
    · exact absurd q hd
/-- an object outside of the view changes -/
theorem Ext.poke {V H V' H' : Hp} (x : Ext V H V' H') {D : Addr} {o : HO} (hd : H D = none) (h : V' D = none) : Ext V H V' (upd H' D o) :=
  ⟨x.vv, fun b u e => by
    have hb : b ≠ D := fun z => by rw [z, h] at e; cases e
    rw [upd_ne hb]; exact x.vh b u e, fun b u e => by
    have hb : b ≠ D := ne_of_none e hd
    rw [upd_ne hb]; exact x.hh b u e, x.nw⟩
/-- the object at D, done, is taken in -/
theorem Ext.take {V H V' H' : Hp} (x : Ext V H V' H') {D : Addr} {o : HO} (hd : H D = none) (h : V' D = none) (e : H' D = some o) : Ext V H (upd V' D o) H' :=
  ⟨x.vv.trans (same_upd h), fun b u q => by
    by_cases hb : b = D
    · subst hb; rw [upd_same] at q; rw [e]; exact q
    · rw [upd_ne hb] at q; exact x.vh b u q, x.hh, fun a q => by
    by_cases ha : a = D
    · subst ha; exact Or.inr hd
    · rw [upd_ne ha] at q; exact x.nw a q⟩
theorem _root_.L2.Same.sqt {K : PySem.W.Frag} {H H' : Hp} {a : Addr} {xs : List V} (e : Same H H') (h : SqT K H a xs) : SqT K H' a xs := by
  rcases h with (h | ⟨o, h⟩) | h
  · exact .inl (.inl (e _ _ h))
  · exact .inl (.inr ⟨o, e _ _ h⟩)
  · exact .inr h
mutual
theorem dp_same {K : PySem.W.Frag} {H H' : Hp} (s : Same H H') : ∀ (d : PyData) (v : V), Dp K H v d → Dp K H' v d
  | .none, _, h => by cases h; exact .non
  | .bool b, _, h => by cases h; exact .bl b
  | .int i, _, h => by cases h; exact .int i
  | .str x, _, h => by cases h; exact .str x
  | .list ds, _, h => by
    cases h with
    | lst q r => exact .lst (s.seq q) (dpall_same s ds _ r)
  | .tuple ds, _, h => by
    cases h with
    | tup q r => exact .tup (s.sqt q) (dpall_same s ds _ r)
  | .dict _, _, h => by cases h
theorem dpall_same {K : PySem.W.Frag} {H H' : Hp} (s : Same H H') : ∀ (ds : List PyData) (vs : List V), DpAll K H vs ds → DpAll K H' vs ds
  | [], _, h => by cases h; exact .nil
  | d :: ds, _, h => by
    cases h with
    | cons q r => exact .cons (dp_same s d _ q) (dpall_same s ds _ r)
end
theorem _root_.L2.Dp.to {K : PySem.W.Frag} {H H' : Hp} {v : V} {d : PyData} (h : Dp K H v d) (s : Same H H') : Dp K H' v d := dp_same s d v h
theorem _root_.L2.DpAll.to {K : PySem.W.Frag} {H H' : Hp} {v : List V} {d : List PyData} (h : DpAll K H v d) (s : Same H H') : DpAll K H' v d := dpall_same s d v h
theorem dpall_len {K : PySem.W.Frag} {H : Hp} : ∀ {vs : List V} {ds : List PyData}, DpAll K H vs ds → vs.length = ds.length
  | _, [], h => by cases h; rfl
  | _, d :: ds, h => by
    cases h with
    | cons q r => exact congrArg (· + 1) (dpall_len r)
theorem dpall_get {K : PySem.W.Frag} {H : Hp} : ∀ {vs : List V} {ds : List PyData} {i : Nat} {v : V}, DpAll K H vs ds → vs[i]? = some v → ∃ d, ds[i]? = some d ∧ Dp K H v d
  | _, [], i, v, h, e => by cases h; cases e
  | _, d :: ds, i, v, h, e => by
    cases h with
    | cons q r =>
      match i, e with
      | 0, e => cases e; exact ⟨d, rfl, q⟩
      | i + 1, e => exact dpall_get (i := i) r e
theorem dpall_get' {K : PySem.W.Frag} {H : Hp} : ∀ {vs : List V} {ds : List PyData} {i : Nat} {d : PyData}, DpAll K H vs ds → ds[i]? = some d → ∃ v, vs[i]? = some v ∧ Dp K H v d
  | _, [], i, d, h, e => by cases e
  | _, d :: ds, i, d', h, e => by
    cases h with
    | cons q r =>
      match i, e with
      | 0, e => cases e; exact ⟨_, rfl, q⟩
      | i + 1, e => exact dpall_get' (i := i) r e
theorem dpall_app {K : PySem.W.Frag} {H : Hp} : ∀ {vs ws : List V} {ds es : List PyData}, DpAll K H vs ds → DpAll K H ws es → DpAll K H (vs ++ ws) (ds ++ es)
  | _, _, [], _, h, g => by cases h; exact g
  | _, _, d :: ds, _, h, g => by
    cases h with
    | cons q r => exact .cons q (dpall_app r g)
theorem dp_list {K : PySem.W.Frag} {H : Hp} {v : V} {ds : List PyData} (h : Dp K H v (.list ds)) : ∃ a xs, v = .ref a ∧ SqL K H a xs ∧ DpAll K H xs ds := by
  cases h with
  | lst q r => exact ⟨_, _, rfl, q, r⟩
theorem dp_tuple {K : PySem.W.Frag} {H : Hp} {v : V} {ds : List PyData} (h : Dp K H v (.tuple ds)) : ∃ a xs, v = .ref a ∧ SqT K H a xs ∧ DpAll K H xs ds := by
  cases h with
  | tup q r => exact ⟨_, _, rfl, q, r⟩
theorem dp_int {K : PySem.W.Frag} {H : Hp} {v : V} {i : Int} (h : Dp K H v (.int i)) : v = .int i := by cases h; rfl
theorem dp_str {K : PySem.W.Frag} {H : Hp} {v : V} {i : Str} (h : Dp K H v (.str i)) : v = .str i := by cases h; rfl
theorem dp_bool {K : PySem.W.Frag} {H : Hp} {v : V} {i : Bool} (h : Dp K H v (.bool i)) : v = .bl i := by cases h; rfl
/-! ### comprehensions over any walk -/
def fm {α : Type} (f : Nat → Option α) (n : Nat) : List α := (List.range n).filterMap f
theorem fm_succ {α : Type} (f : Nat → Option α) (n : Nat) : fm f (n + 1) = fm f n ++ (f n).toList := by
  unfold fm
  rw [List.range_succ, List.filterMap_append]
  congr 1
theorem fm_len {α : Type} (f : Nat → Option α) (n : Nat) : (fm f n).length ≤ n := by
  have h := List.length_filterMap_le f (List.range n)
  rw [List.length_range] at h
  exact h
structure LcInv (K : PySem.W.Frag) (V0 H0 : Hp) (D : Addr) (acc : List PyData) (H : Hp) : Prop where
  ex : ∃ V xs, Ext V0 H0 V H ∧ V D = none ∧ H D = some (.lst xs) ∧ DpAll K V xs acc
theorem LcInv.start {K : PySem.W.Frag} {V0 H0 : Hp} {D : Addr} (s : Same V0 H0) (hD : H0 D = none) : LcInv K V0 H0 D [] (upd H0 D (.lst [])) :=
  ⟨V0, [], Ext.skip s hD, s.free hD, upd_same, .nil⟩
theorem LcInv.done {K : PySem.W.Frag} {V0 H0 H : Hp} {D : Addr} {acc : List PyData} (hD : H0 D = none) (i : LcInv K V0 H0 D acc H) : ∃ U xs, Ext V0 H0 U H ∧ U D = some (.lst xs) ∧ DpAll K U xs acc ∧ Dp K U (.ref D) (.list acc) := by
  obtain ⟨V, xs, x, hv, hd, dp⟩ := i.ex
  exact ⟨_, xs, x.take hD hv hd, upd_same, dp.to (same_upd hv), .lst (SqL.of upd_same) (dp.to (same_upd hv))⟩
/-- one more item -/
theorem LcInv.push {K : PySem.W.Frag} {V0 H0 U H U' H' : Hp} {D : Addr} {acc : List PyData} {xs : List V} {y : V} {d : PyData} (hD : H0 D = none) (x : Ext V0 H0 U H) (hv : U D = none) (hd : H D = some (.lst xs)) (dp : DpAll K U xs acc)
    (x2 : Ext U H U' H') (e : Dp K U' y d) (hl : acc.length < 100000) :
    ∃ acc', H' D = some (.lst acc') ∧ acc'.length < sizeLine ∧ LcInv K V0 H0 D (acc ++ [d]) (upd H' D (.lst (acc' ++ [y]))) := by
  have hv' : U' D = none := x2.keepOut hv (by rw [hd]; exact fun z => by cases z)
  refine ⟨xs, x2.hh _ _ hd, lt_line (by rw [dpall_len dp]; exact hl), U', xs ++ [y], (x.trans x2).poke hD hv', hv', upd_same, dpall_app (dp.to x2.vv) (.cons e .nil)⟩
/-- a comprehension's reading over a walk that leaves the heap as it is: at turn i the item x, then f i: the data of what is put in, or none -/
theorem lc_dp0 {J : It} {n : Nat} {G : Hp → Prop} {Y : Nat → Hp → V → Hp → Prop} (wk : Walk J n G Y) {K : PySem.W.Frag} {V0 H0 : Hp} {D : Addr} {g : TG} {tt : TT} {te : TE} {vs : List Nat} {σ : St} {Qd : Hp → Prop} (f : Nat → Option PyData) (σ0 : St) (hσ : wipe σ vs = σ0) (s0 : Same V0 H0) (hD : H0 D = none) (hn : n < 100000)
    (hG : ∀ H, Same H0 H → G H) (hY : ∀ i H x H', Y i H x H' → H' = H)
    (hs : ∀ i x V H, i < n → Ext V0 H0 V H → Y i H x H → ∀ (Qy : VK) (Qn : Hp → Prop), (∀ d y V' H', f i = some d → Ext V H V' H' → Dp K V' y d → Qy y H') → (f i = none → ∀ V' H', Ext V H V' H' → Qn H') →
      g x σ0 H fun σ2 H2 => wipe σ2 vs = σ0 ∧ tt σ2 H2 fun b H3 => if b = true then te σ2 H3 Qy else Qn H3)
    (hd : ∀ (U H : Hp) (xs : List V), Ext V0 H0 U H → U D = none → H D = some (.lst xs) → DpAll K U xs (fm f n) → Qd H) :
    ∃ W : Nat → Nat → Hp → Prop, (∃ m, W 0 m (upd H0 D (.lst []))) ∧ ∀ i m H, W i m H →
      (J.stop i H ∧ Qd H) ∨ (J.go i H ∧ ∃ Nx : Hp → Prop, (∀ H', Nx H' → ∃ m', m' < m ∧ W (i + 1) m' H') ∧ ∀ x H', J.yld i H x H' → g x (wipe σ vs) H' fun σ2 H2 => wipe σ2 vs = wipe σ vs ∧ tt σ2 H2 fun b H3 =>
        if b = true then te σ2 H3 fun y H4 => ∃ acc, H4 D = some (.lst acc) ∧ acc.length < sizeLine ∧ Nx (upd H4 D (.lst (acc ++ [y]))) else Nx H3) := by
  subst hσ
  refine lc_it wk (fun i H => LcInv K V0 H0 D (fm f i) H) (LcInv.start s0 hD) (fun i H _ p => ?_) (fun i x H H' hi p y => ?_) (fun H p => ?_)
  · obtain ⟨V, xs, x, _⟩ := p.ex
    exact hG H x.hh
  · obtain ⟨V, xs, x0, hv, hdd, dp⟩ := p.ex
    obtain rfl := hY i H x H' y
    refine hs i x V H' hi x0 y _ _ (fun d y' V' H4 e x2 dy => ?_) (fun e V' H4 x2 => ?_)
    · have hl : (fm f i).length < 100000 := Nat.lt_of_le_of_lt (fm_len f i) (Nat.lt_trans hi hn)
      obtain ⟨acc', a1, a2, a3⟩ := LcInv.push hD x0 hv hdd dp x2 dy hl
      refine ⟨acc', a1, a2, ?_⟩
      rw [fm_succ, e]
      exact a3
    · have hv' : V' D = none := x2.keepOut hv (by rw [hdd]; exact fun z => by cases z)
      rw [fm_succ, e]
      show LcInv K V0 H0 D (fm f i ++ []) H4
      rw [List.append_nil]
      exact ⟨V', xs, x0.trans x2, hv', x2.hh _ _ hdd, dp.to x2.vv⟩
  · obtain ⟨U, xs, x, hv, hdd, dp⟩ := p.ex
    exact hd U H xs x hv hdd dp
/-- a comprehension's reading over a walk that leaves the heap as it is: at turn i the item x, then f i: the data of what is put in, or none -/
theorem lc_dp {J : It} {n : Nat} {G : Hp → Prop} {Y : Nat → Hp → V → Hp → Prop} (wk : Walk J n G Y) {K : PySem.W.Frag} {V0 H0 : Hp} {D : Addr} {g : TG} {tt : TT} {te : TE} {vs : List Nat} {σ : St} {Qd : Hp → Prop} (f : Nat → Option PyData) (σ0 : St) (hσ : wipe σ vs = σ0) (s0 : Same V0 H0) (hD : H0 D = none) (hn : n < 100000)
    (hG : ∀ H, Same H0 H → G H) (hY : ∀ i H x H', Y i H x H' → H' = H)
    (hs : ∀ i x V H, i < n → Ext V0 H0 V H → Y i H x H → ∀ (Qy : VK) (Qn : Hp → Prop), (∀ d y V' H', f i = some d → Ext V H V' H' → Dp K V' y d → Qy y H') → (f i = none → ∀ V' H', Ext V H V' H' → Qn H') →
      g x σ0 H fun σ2 H2 => wipe σ2 vs = σ0 ∧ tt σ2 H2 fun b H3 => if b = true then te σ2 H3 Qy else Qn H3)
    (hd : ∀ (U H : Hp) (xs : List V), Ext V0 H0 U H → U D = some (.lst xs) → DpAll K U xs (fm f n) → Dp K U (.ref D) (.list (fm f n)) → Qd H) :
    ∃ W : Nat → Nat → Hp → Prop, (∃ m, W 0 m (upd H0 D (.lst []))) ∧ ∀ i m H, W i m H →
      (J.stop i H ∧ Qd H) ∨ (J.go i H ∧ ∃ Nx : Hp → Prop, (∀ H', Nx H' → ∃ m', m' < m ∧ W (i + 1) m' H') ∧ ∀ x H', J.yld i H x H' → g x (wipe σ vs) H' fun σ2 H2 => wipe σ2 vs = wipe σ vs ∧ tt σ2 H2 fun b H3 =>
        if b = true then te σ2 H3 fun y H4 => ∃ acc, H4 D = some (.lst acc) ∧ acc.length < sizeLine ∧ Nx (upd H4 D (.lst (acc ++ [y]))) else Nx H3) := by
  refine lc_dp0 wk f σ0 hσ s0 hD hn hG hY hs fun U H xs x hv hdd dp => ?_
  exact hd _ H xs (x.take hD hv hdd) upd_same (dp.to (same_upd hv)) (.lst (SqL.of upd_same) (dp.to (same_upd hv)))
theorem fm_map {α β : Type} (f : α → β) : ∀ (xs : List α), fm (fun i => (xs[i]?).map f) xs.length = xs.map f := by
  intro xs
  have h : ∀ n, n ≤ xs.length → fm (fun i => (xs[i]?).map f) n = (xs.take n).map f := by
    intro n
    induction n with
    | zero => intro _; rfl
    | succ n ih =>
      intro hn
      rw [fm_succ, ih (by omega), List.getElem?_eq_getElem (by omega), List.take_succ_eq_append_getElem (by omega), List.map_append]
      rfl
  rw [h _ (Nat.le_refl _), List.take_length]

theorem lc2_outer {J : It} {n : Nat} {G : Hp → Prop} {Y : Nat → Hp → V → Hp → Prop} (wk : Walk J n G Y) {K : PySem.W.Frag} {V0 H0 : Hp} {D : Addr} {g : TG} {vs : List Nat} {σ : St} {body : St → Hp → (Hp → Prop) → Prop} {Qd : Hp → Prop} (F : Nat → List PyData) (σ0 : St) (hσ : wipe σ vs = σ0) (s0 : Same V0 H0) (hD : H0 D = none) (hF : F 0 = [])
    (hG : ∀ H, Same H0 H → G H) (hY : ∀ i H x H', Y i H x H' → H' = H)
    (hs : ∀ i x H, i < n → LcInv K V0 H0 D (F i) H → Y i H x H → ∀ Nx : Hp → Prop, (∀ H', LcInv K V0 H0 D (F (i + 1)) H' → Nx H') → g x σ0 H fun σ2 H2 => wipe σ2 vs = σ0 ∧ body σ2 H2 Nx)
    (hd : ∀ (U H : Hp) (xs : List V), Ext V0 H0 U H → U D = some (.lst xs) → DpAll K U xs (F n) → Dp K U (.ref D) (.list (F n)) → Qd H) :
    ∃ W : Nat → Nat → Hp → Prop, (∃ m, W 0 m (upd H0 D (.lst []))) ∧ ∀ i m H, W i m H →
      (J.stop i H ∧ Qd H) ∨ (J.go i H ∧ ∃ Nx : Hp → Prop, (∀ H', Nx H' → ∃ m', m' < m ∧ W (i + 1) m' H') ∧ ∀ x H', J.yld i H x H' → g x (wipe σ vs) H' fun σ2 H2 => wipe σ2 vs = wipe σ vs ∧ body σ2 H2 Nx) := by
  subst hσ
  refine ⟨fun i m H => m = n - i ∧ i ≤ n ∧ LcInv K V0 H0 D (F i) H, ⟨n, by simp, Nat.zero_le _, by rw [hF]; exact LcInv.start s0 hD⟩, ?_⟩
  rintro i m H ⟨rfl, hi, p⟩
  have sH : Same H0 H := by obtain ⟨_, _, x, _⟩ := p.ex; exact x.hh
  by_cases hlt : i < n
  · refine .inr ⟨wk.goes i H hlt (hG H sH), fun H' => LcInv K V0 H0 D (F (i + 1)) H', fun H' p' => ⟨n - (i + 1), by omega, rfl, hlt, p'⟩, fun x H' y => ?_⟩
    have y' := wk.yields i H x H' hlt (hG H sH) y
    obtain rfl := hY i H x H' y'
    exact hs i x H' hlt p y' _ fun _ h => h
  · have e : i = n := by omega
    subst e
    obtain ⟨U, xs, x, e1, e2, e3⟩ := p.done hD
    exact .inl ⟨wk.stops H (hG H sH), hd U H xs x e1 e2 e3⟩
theorem lc2_inner {J : It} {n : Nat} {G : Hp → Prop} {Y : Nat → Hp → V → Hp → Prop} (wk : Walk J n G Y) {K : PySem.W.Frag} {V0 H0 H4 : Hp} {D : Addr} {acc0 : List PyData} {g : TG} {tt : TT} {te : TE} {vs : List Nat} {σ : St} {Nx : Hp → Prop} (f : Nat → Option PyData) (σ0 : St) (hσ : wipe σ vs = σ0) (hD : H0 D = none)
    (inv : LcInv K V0 H0 D acc0 H4) (hn : acc0.length + n < 100000) (hG : ∀ H, Same H0 H → G H) (hY : ∀ i H x H', Y i H x H' → H' = H)
    (hs : ∀ i x V H, i < n → Ext V0 H0 V H → Y i H x H → ∀ (Qy : VK) (Qn : Hp → Prop), (∀ d y V' H', f i = some d → Ext V H V' H' → Dp K V' y d → Qy y H') → (f i = none → ∀ V' H', Ext V H V' H' → Qn H') →
      g x σ0 H fun σ2 H2 => wipe σ2 vs = σ0 ∧ tt σ2 H2 fun b H3 => if b = true then te σ2 H3 Qy else Qn H3)
    (hd : ∀ H, LcInv K V0 H0 D (acc0 ++ fm f n) H → Nx H) :
    ∃ W : Nat → Nat → Hp → Prop, (∃ m, W 0 m H4) ∧ ∀ i m H, W i m H →
      (J.stop i H ∧ Nx H) ∨ (J.go i H ∧ ∃ Nx1 : Hp → Prop, (∀ H', Nx1 H' → ∃ m', m' < m ∧ W (i + 1) m' H') ∧ ∀ x H', J.yld i H x H' → g x (wipe σ vs) H' fun σ2 H2 => wipe σ2 vs = wipe σ vs ∧ tt σ2 H2 fun b H3 =>
        if b = true then te σ2 H3 fun y H4 => ∃ acc, H4 D = some (.lst acc) ∧ acc.length < sizeLine ∧ Nx1 (upd H4 D (.lst (acc ++ [y]))) else Nx1 H3) := by
  subst hσ
  refine ⟨fun i m H => m = n - i ∧ i ≤ n ∧ LcInv K V0 H0 D (acc0 ++ fm f i) H, ⟨n, by simp, Nat.zero_le _, by rw [show fm f 0 = [] from rfl, List.append_nil]; exact inv⟩, ?_⟩
  rintro i m H ⟨rfl, hi, p⟩
  have sH : Same H0 H := by obtain ⟨_, _, x, _⟩ := p.ex; exact x.hh
  by_cases hlt : i < n
  · refine .inr ⟨wk.goes i H hlt (hG H sH), fun H' => LcInv K V0 H0 D (acc0 ++ fm f (i + 1)) H', fun H' p' => ⟨n - (i + 1), by omega, rfl, hlt, p'⟩, fun x H' y => ?_⟩
    have y' := wk.yields i H x H' hlt (hG H sH) y
    obtain rfl := hY i H x H' y'
    obtain ⟨V, xs, x0, hv, hdd, dp⟩ := p.ex
    refine hs i x V H' hlt x0 y' _ _ (fun d y' V' H4 e x2 dy => ?_) (fun e V' H4 x2 => ?_)
    · have hl : (acc0 ++ fm f i).length < 100000 := by have := fm_len f i; rw [List.length_append]; omega
      obtain ⟨acc', a1, a2, a3⟩ := LcInv.push hD x0 hv hdd dp x2 dy hl
      refine ⟨acc', a1, a2, ?_⟩
      rw [fm_succ, e, ← List.append_assoc]
      exact a3
    · have hv' : V' D = none := x2.keepOut hv (by rw [hdd]; exact fun z => by cases z)
      rw [fm_succ, e]
      show LcInv K V0 H0 D (acc0 ++ (fm f i ++ [])) H4
      rw [List.append_nil]
      exact ⟨V', xs, x0.trans x2, hv', x2.hh _ _ hdd, dp.to x2.vv⟩
  · have e : i = n := by omega
    subst e
    exact .inl ⟨wk.stops H (hG H sH), hd H p⟩
theorem fm_some {α : Type} (f : Nat → α) (n : Nat) : fm (fun i => some (f i)) n = (List.range n).map f := by
  induction n with
  | zero => rfl
  | succ n ih => rw [fm_succ, ih, List.range_succ, List.map_append]; rfl
theorem fl_take' {α : Type} {β : Type} (f : α → List β) : ∀ (xs : List α) (i : Nat) (x : α), xs[i]? = some x → (xs.take (i + 1)).flatMap f = (xs.take i).flatMap f ++ f x := by
  intro xs i x h
  obtain ⟨hi, e⟩ := List.getElem?_eq_some_iff.mp h
  rw [List.take_succ_eq_append_getElem hi, List.flatMap_append, e]
  show _ ++ (f x ++ []) = _
  rw [List.append_nil]
theorem fl_le' {α : Type} {β : Type} (f : α → List β) (xs : List α) (i : Nat) : ((xs.take i).flatMap f).length ≤ (xs.flatMap f).length := by
  have : xs.flatMap f = (xs.take i).flatMap f ++ (xs.drop i).flatMap f := by rw [← List.flatMap_append, List.take_append_drop]
  rw [this, List.length_append]; omega
/-! ### lists of ints, texts -/
theorem tyL {K : PySem.W.Frag} {H : Hp} {a : Addr} {xs : List V} (h : SqL K H a xs) : TyX K H (.ref a) (.type "list") := by
  rcases h with (h | ⟨o, h⟩) | ⟨o, its, n, h, c, _⟩
  · exact .base (.lst h)
  · exact .base (.frz h)
  · exact .kList h c
theorem tyT {K : PySem.W.Frag} {H : Hp} {a : Addr} {xs : List V} (h : SqT K H a xs) : TyX K H (.ref a) (.type "tuple") := by
  rcases h with (h | ⟨o, h⟩) | ⟨o, its, n, h, c, _⟩
  · exact .base (.tup h)
  · exact .fTuple h
  · exact .kTuple h c
theorem dp_intsV {K : PySem.W.Frag} {H : Hp} : ∀ {xs : List V} {is : List Int}, DpAll K H xs (is.map PyData.int) → xs = is.map V.int
  | _, [], r => by cases r; rfl
  | _, i :: is, r => by
    cases r with
    | cons r1 r2 => cases r1; rw [dp_intsV r2]; rfl
theorem dp_intsL {K : PySem.W.Frag} {H : Hp} {a : Addr} {is : List Int} (h : Dp K H (.ref a) (.list (is.map PyData.int))) : SqL K H a (is.map V.int) := by
  obtain ⟨a', xs, e, q, r⟩ := dp_list h
  cases e
  rw [← dp_intsV r]; exact q
theorem dp_strsV {K : PySem.W.Frag} {H : Hp} : ∀ {xs : List V} {is : List Str}, DpAll K H xs (is.map PyData.str) → xs = is.map V.str
  | _, [], r => by cases r; rfl
  | _, i :: is, r => by
    cases r with
    | cons r1 r2 => cases r1; rw [dp_strsV r2]; rfl
theorem dp_boolsV {K : PySem.W.Frag} {H : Hp} : ∀ {xs : List V} {is : List Bool}, DpAll K H xs (is.map PyData.bool) → xs = is.map V.bl
  | _, [], r => by cases r; rfl
  | _, i :: is, r => by
    cases r with
    | cons r1 r2 => cases r1; rw [dp_boolsV r2]; rfl
theorem dp_boolsL {K : PySem.W.Frag} {H : Hp} {a : Addr} {is : List Bool} (h : Dp K H (.ref a) (.list (is.map PyData.bool))) : SqL K H a (is.map V.bl) := by
  obtain ⟨a', xs, e, q, r⟩ := dp_list h
  cases e
  rw [← dp_boolsV r]; exact q
theorem size_eq (z : Str) : z.cps.size = z.cps.toList.length := by simp
theorem cps_at (z : Str) (i : Nat) : z.cps[i]? = z.cps.toList[i]? := by simp
theorem fm_list {α β : Type} (f : α → β) (xs : List α) (n : Nat) (h : n = xs.length) (g : Nat → Option β) (hg : ∀ i x, xs[i]? = some x → g i = some (f x)) : fm g n = xs.map f := by
  subst h
  rw [← fm_map f xs]
  unfold fm
  have : ∀ l : List Nat, (∀ i ∈ l, i < xs.length) → l.filterMap g = l.filterMap fun i => (xs[i]?).map f := by
    intro l
    induction l with
    | nil => intro _; rfl
    | cons i l ih =>
      intro hl
      have hi' := hl i List.mem_cons_self
      rw [List.filterMap_cons, List.filterMap_cons, hg i _ (List.getElem?_eq_getElem hi'), List.getElem?_eq_getElem hi', ih fun j hj => hl j (List.mem_cons_of_mem _ hj)]
      rfl
  exact this _ fun i hi => List.mem_range.mp hi
theorem rep_flat {α : Type} (v : α) : ∀ n : Nat, (List.replicate n [v]).flatten = List.replicate n v
  | 0 => rfl
  | n + 1 => by rw [List.replicate_succ, List.replicate_succ, List.flatten_cons, rep_flat v n]; rfl
/-- a list's object that is tracked, at p, new -/
structure NewL (H H' : Hp) (p : Addr) (xs : List V) : Prop where
  new : H p = none
  same : Same H H'
  at_ : H' p = some (.lst xs)
theorem NewL.ext {U H H' : Hp} {p : Addr} {xs : List V} (n : NewL H H' p xs) (s : Same U H) : Ext U H (upd U p (.lst xs)) H' :=
  ⟨same_upd (s.free n.new), fun b u e => by
    by_cases hb : b = p
    · subst hb; rw [upd_same] at e; rw [n.at_]; exact e
    · rw [upd_ne hb] at e; exact n.same _ _ (s b u e), n.same, fun a e => by
    by_cases ha : a = p
    · subst ha; exact Or.inr n.new
    · rw [upd_ne ha] at e; exact Or.inl e⟩
theorem str_app (x y : Str) : (x ++ y).cps.toList = x.cps.toList ++ y.cps.toList := Array.toList_append
theorem str_len_app (x y : Str) : (x ++ y).length = x.length + y.length := by
  show (x ++ y).cps.size = x.cps.size + y.cps.size
  rw [size_eq, str_app, List.length_append, ← size_eq, ← size_eq]
/-! ### _law_cell, _law_row -/
def lawCell (ns : List Int) (k : Nat) : Int :=
  let c := if 0 < ns.length then ns.getD (k % ns.length) 0 else 0
  if c < 0 then 1 - 2 * c else c
theorem lawCell_nn (ns : List Int) (k : Nat) : 0 ≤ lawCell ns k := by
  unfold lawCell
  simp only
  split <;> omega
def lawOne (c : Int) (k : Nat) : Int := (c * 48271 + (k : Int) * 69621 + 12345) % 2147483647
def lawTwo (o : Int) (k : Nat) : Int := (o * o + 16807 * (k : Int) + 7) % 2147483629
def lawRow (ns : List Int) (k : Nat) : Int :=
  if k < ns.length ∧ 1000000000 ≤ lawCell ns k then lawCell ns k
  else (lawTwo (lawOne (lawCell ns k) k) k * lawTwo (lawOne (lawCell ns k) k) k + lawOne (lawCell ns k) k) % 4294967291 + 4294967296 * (lawOne (lawCell ns k) k + 1)
theorem lawOne_b (c : Int) (k : Nat) : 0 ≤ lawOne c k ∧ lawOne c k < 2147483647 := by unfold lawOne; omega
theorem lawTwo_b (c : Int) (k : Nat) : 0 ≤ lawTwo c k ∧ lawTwo c k < 2147483629 := by
  unfold lawTwo
  generalize c * c + 16807 * (k : Int) + 7 = x
  omega
theorem lawRow_nn (ns : List Int) (k : Nat) : 0 ≤ lawRow ns k := by
  unfold lawRow
  have h1 := lawOne_b (lawCell ns k) k
  split
  · exact lawCell_nn ns k
  · generalize lawTwo (lawOne (lawCell ns k) k) k * lawTwo (lawOne (lawCell ns k) k) k + lawOne (lawCell ns k) k = x
    omega
def sp__law_cell (K : PySem.W.Frag) : Sp := fun vs H Q _ => ∃ (a : Addr) (ns : List Int) (k : Nat), vs = [.ref a, .int (k : Int)] ∧ SqL K H a (ns.map V.int) ∧ Q (.int (lawCell ns k)) H
theorem sc__law_cell : FnScope ["script", "k", "cell"] ["script", "k"] (defScope s__law_cell) := ⟨rfl, rfl, rfl, by decide +kernel, rfl, by decide +kernel, by decide +kernel⟩
theorem ok__law_cell (T : Txt K mg A) : FnOk P w K mg base CX0 1 A.f_law_cell A.d_law_cell ["script", "k"] (sp__law_cell K) := by
  refine T.F_law_cell.ok sc__law_cell (fun vs H Q E h => ?_) (fun cdv Ar outer s H vs Q E hr h => ?_)
  · obtain ⟨a, ns, k, rfl, _⟩ := h
    rfl
  · obtain ⟨a, ns, k, rfl, hS, q⟩ := h
    refine ⟨_, (pss_cons (ps_set (i := 2) sc__law_cell.nd rfl (Or.inl rfl) pe_int)
      (pss_cons (ps_if (pt_cmpR op_gt (pe_callB call_len_seq (by rfl) T.len PySem.boot_len (pa_cons (pv 0) pa_nil)) pe_int (nomark _))
      (pss_one (ps_set (i := 2) sc__law_cell.nd rfl (Or.inl rfl) (pe_ix ix_list (pv 0) (pe_op op_mod (pe_callTy call_int1 (by rfl) T.int (by decide +kernel) (pa_cons (pv 1) pa_nil)) (pe_callB call_len_seq (by rfl) T.len PySem.boot_len (pa_cons (pv 0) pa_nil))) (fun _ _ => rfl))))
      pss_nil)
      (pss_cons (ps_if (pt_cmpR op_lt (pv 2) pe_int (nomark _))
      (pss_one (ps_set (i := 2) sc__law_cell.nd rfl (Or.inl rfl) (pe_op op_sub pe_int (pe_op op_mul pe_int (pv 2)))))
      pss_nil)
      (pss_one (ps_ret (pv 2)))))), ?_⟩
    have two : ∀ (c : Int), (if c < 0 then 1 - 2 * c else c) = lawCell ns k → tSeq (tIfS (tTest (tOp (rI0 fun i j => .bl (decide (i < j))) (tVar 2) (tC (.int 0)))) (tAsg (tOp (rI0 fun i j => .int (i - j)) (tC (.int 1)) (tOp (rI CMul fun i j => .int (i * j)) (tC (.int 2)) (tVar 2))) (gName 2)) tNext) (tRet (tVar 2))
        { nx := fun _ H' => Q .non H', rt := Q } [some (.ref a), some (.int (k : Int)), some (.int c)] H := by
      intro c hc
      walk_at "rd"
      refine iteP (fun h => ?_) (fun h => ?_)
      · rw [if_pos h] at hc
        walk_at "rd"
        rw [← hc] at q; exact q
      · rw [if_neg h] at hc
        walk_at "rd"
        rw [← hc] at q; exact q
    refine ⟨.ref a, rfl, a, _, rfl, .inl hS, _, _, rfl, rfl, _, rfl, iteP (fun h => ?_) (fun h => ?_)⟩
    · have h0 : 0 < ns.length := by rw [List.length_map] at h; omega
      refine ⟨_, rfl, _, rfl, Or.inl ⟨_, rfl, ?_⟩⟩
      refine ⟨_, rfl, a, _, rfl, .inl hS, _, _, rfl, rfl, by show (0 : Int) < _; omega, a, _, _, .int (ns.getD (k % ns.length) 0), rfl, rfl, hS, ?_, ?_⟩
      · refine at_of (j := k % ns.length) ?_ ?_
        · rw [List.length_map]; exact (Int.natCast_emod _ _).symm
        · rw [List.getElem?_map, List.getElem?_eq_getElem (Nat.mod_lt _ h0), List.getD_eq_getElem?_getD, List.getElem?_eq_getElem (Nat.mod_lt _ h0)]; rfl
      · refine two _ ?_
        unfold lawCell; rw [if_pos h0]
    · have h0 : ¬ 0 < ns.length := by rw [List.length_map] at h; omega
      refine two _ ?_
      unfold lawCell; rw [if_neg h0]
def sp__law_row (K : PySem.W.Frag) : Sp := fun vs H Q _ => ∃ (a : Addr) (ns : List Int) (k : Nat), vs = [.ref a, .int (k : Int)] ∧ SqL K H a (ns.map V.int) ∧ Q (.int (lawRow ns k)) H
theorem sc__law_row : FnScope ["script", "k", "cell", "one", "two"] ["script", "k"] (defScope s__law_row) := ⟨rfl, rfl, rfl, by decide +kernel, rfl, by decide +kernel, by decide +kernel⟩
theorem ok__law_row (T : Txt K mg A) : FnOk P w K mg base CX0 2 A.f_law_row A.d_law_row ["script", "k"] (sp__law_row K) := by
  refine T.F_law_row.ok sc__law_row (fun vs H Q E h => ?_) (fun cdv Ar outer s H vs Q E hr h => ?_)
  · obtain ⟨a, ns, k, rfl, _⟩ := h
    rfl
  · obtain ⟨a, ns, k, rfl, hS, q⟩ := h
    refine ⟨_, (pss_cons (ps_set (i := 2) sc__law_row.nd rfl (Or.inl rfl) (pe_call (ok__law_cell T) (hr.mono (by decide)) rfl T.g_law_cell T.k_law_cell T.b_law_cell .nil pass0 (pa_cons (pv 0) (pa_cons (pv 1) pa_nil))))
      (pss_cons (ps_if (PW.pt (pw_and (pt_cmpR op_lt (pv 1) (pe_callB call_len_seq (by rfl) T.len PySem.boot_len (pa_cons (pv 0) pa_nil)) (nomark _)) (pw_and1 (pt_cmpR op_ge (pv 2) pe_int (nomark _)))))
      (pss_one (ps_ret (pv 2)))
      pss_nil)
      (pss_cons (ps_set (i := 3) sc__law_row.nd rfl (Or.inl rfl) (pe_op op_mod (pe_callTy call_int1 (by rfl) T.int (by decide +kernel) (pa_cons (pe_op op_add (pe_op op_add (pe_op op_mul (pv 2) pe_int) (pe_op op_mul (pv 1) pe_int)) pe_int) pa_nil)) pe_int))
      (pss_cons (ps_set (i := 4) sc__law_row.nd rfl (Or.inl rfl) (pe_op op_mod (pe_callTy call_int1 (by rfl) T.int (by decide +kernel) (pa_cons (pe_op op_add (pe_op op_add (pe_op op_mul (pv 3) (pv 3)) (pe_op op_mul pe_int (pv 1))) pe_int) pa_nil)) pe_int))
      (pss_one (ps_ret (pe_op op_add (pe_op op_mod (pe_callTy call_int1 (by rfl) T.int (by decide +kernel) (pa_cons (pe_op op_add (pe_op op_mul (pv 4) (pv 4)) (pv 3)) pa_nil)) pe_int) (pe_op op_mul pe_int (pe_op op_add (pv 3) pe_int))))))))), ?_⟩
    have b1 := lawOne_b (lawCell ns k) k
    have b2 := lawTwo_b (lawOne (lawCell ns k) k) k
    have m1 : CMul (lawOne (lawCell ns k) k) (lawOne (lawCell ns k) k) := Or.inl ⟨by omega, by omega⟩
    have m2 : CMul (lawTwo (lawOne (lawCell ns k) k) k) (lawTwo (lawOne (lawCell ns k) k) k) := Or.inl ⟨by omega, by omega⟩
    refine ⟨_, rfl, _, rfl, a, ns, k, rfl, hS, ?_⟩
    refine ⟨_, rfl, _, rfl, a, _, rfl, .inl hS, _, _, rfl, rfl, _, rfl, ?_⟩
    refine iteP (fun h => ?_) (fun h => ?_)
    · refine ⟨_, rfl, _, _, rfl, rfl, _, rfl, iteP (fun h2 => ?_) (fun h2 => ?_)⟩
      · have e : lawRow ns k = lawCell ns k := by unfold lawRow; rw [if_pos ⟨by rw [List.length_map] at h; omega, h2⟩]
        rw [e] at q
        exact ⟨_, rfl, q⟩
      · unfold lawRow at q
        rw [if_neg fun z => h2 z.2] at q
        walk_at "rd"
        refine ⟨m1, ?_⟩
        walk_at "rd"
        refine ⟨m2, ?_⟩
        walk_at "rd"
        exact q
    · unfold lawRow at q
      rw [if_neg fun z => h (by rw [List.length_map]; omega)] at q
      walk_at "rd"
      refine ⟨m1, ?_⟩
      walk_at "rd"
      refine ⟨m2, ?_⟩
      walk_at "rd"
      exact q
/-! ### a word that goes on by itself -/
theorem iteVP {p A B : Prop} [Decidable p] (h1 : p → A) (h2 : ¬ p → B) : if p then A else B := by
  by_cases h : p
  · rw [if_pos h]; exact h1 h
  · rw [if_neg h]; exact h2 h
/-- a new tuple is handed back -/
def RetT (H : Hp) (Q : VK) (xs : List V) : Prop := ∀ p H', Same H H' → H' p = some (.tup xs) → Q (.ref p) H'
theorem RetT.go {H : Hp} {Q : VK} {xs : List V} (h : ∀ p H', Same H H' → H' p = some (.tup xs) → Q (.ref p) H') : RetT H Q xs := h
theorem ne_self {d e : PyData} {A B : Prop} (hs : SeqAt.shaped d = true) (h : d = e) (hB : B) : if (!PyData.eqv d e) = true then A else B := by
  subst h
  have h2 : (d.canLay0 && decide (d.depth ≤ 64)) = true := hs
  have : PyData.eqv d d = true := SeqAt.eqv_refl d (by rw [Bool.and_eq_true] at h2; exact h2.1)
  rw [this]
  exact iteF hB
theorem eq_self {d e : PyData} {A B : Prop} (hs : SeqAt.shaped d = true) (h : d = e) (hA : A) : if PyData.eqv d e = true then A else B := by
  subst h
  have h2 : (d.canLay0 && decide (d.depth ≤ 64)) = true := hs
  have : PyData.eqv d d = true := SeqAt.eqv_refl d (by rw [Bool.and_eq_true] at h2; exact h2.1)
  rw [this]
  exact iteT hA
theorem t_ne {K : PySem.W.Frag} {x y : V} {H : Hp} {Q : VK} {d e : PyData} (h1 : Dp K H x d) (h2 : Dp K H y e) (s1 : SeqAt.shaped d = true) (s2 : SeqAt.shaped e = true) (q : Q (.bl (!PyData.eqv d e)) H) : rNeD K x y H Q := ⟨d, e, h1, h2, s1, s2, q⟩
theorem t_eq {K : PySem.W.Frag} {x y : V} {H : Hp} {Q : VK} {d e : PyData} (h1 : Dp K H x d) (h2 : Dp K H y e) (s1 : SeqAt.shaped d = true) (s2 : SeqAt.shaped e = true) (q : Q (.bl (PyData.eqv d e)) H) : rEqD K x y H Q := ⟨d, e, h1, h2, s1, s2, q⟩
/-! words that go on by themselves -/
local macro_rules | `(tactic| walk_at "sq") => `(tactic| first
  | exact SqT.of upd_same
  | exact SqL.of upd_same
  | assumption
  | exact SqT.of (by assumption)
  | exact SqL.of (by assumption)
  | (apply Same.sqt (same_upd (by assumption)); walk_at "sq")
  | (apply Same.seq (same_upd (by assumption)); walk_at "sq")
  | (apply Same.sqt (by assumption); walk_at "sq")
  | (apply Same.seq (by assumption); walk_at "sq"))
local macro_rules | `(tactic| walk_at "sm") => `(tactic| first
  | exact Same.refl _
  | assumption
  | (apply Same.trans _ (same_upd (by assumption)); walk_at "sm")
  | (apply Same.trans _ (by assumption); walk_at "sm"))
local macro_rules | `(tactic| walk_at "at") => `(tactic| first
  | exact atI_nat (j := 0) rfl
  | exact atI_nat (j := 1) rfl
  | exact atI_nat (j := 2) rfl
  | exact atI_nat (j := 3) rfl
  | exact atI_nat (j := 4) rfl
  | exact atI_nat (j := 5) rfl)
local macro_rules | `(tactic| walk_at "go1") => `(tactic| first
  | refine ⟨_, rfl, ?_⟩
  | refine ⟨_, _, rfl, rfl, ?_⟩
  | refine ⟨rfl, ?_⟩
  | refine Or.inl ⟨_, rfl, ?_⟩
  | refine ⟨(by show (0 : Int) < _; decide), ?_⟩
  | refine ⟨(⟨by decide, by decide⟩ : CDiv _ _), ?_⟩
  | refine ⟨(Or.inl ⟨by decide, by decide⟩ : CMul _ _), ?_⟩
  | refine ⟨(Or.inr ⟨by decide, by decide⟩ : CMul _ _), ?_⟩
  | refine ⟨_, _, rfl, ?_⟩
  | refine ⟨_, _, _, rfl, ?_⟩
  | refine ⟨_, _, _, _, rfl, ?_⟩
  | (refine And.intro (a := (0 : Int) ≤ _) ?_ ?_; focus omega)
  | (refine And.intro (a := _ ≤ sizeLine) ?_ (fun p hp => ?_); (focus (exact len_line (Nat.le_of_ble_eq_true rfl))))
  | refine RetT.go (fun p H' s e => ?_)
  | refine if_t rfl ?_
  | refine if_f rfl ?_
  | refine ⟨_, _, rfl, (by walk_at "sq"), rfl, ?_⟩
  | refine ⟨_, _, rfl, Or.inl (by walk_at "sq"), ?_⟩
  | refine ⟨_, _, rfl, Or.inr (by walk_at "sq"), ?_⟩
  | refine ⟨_, _, _, _, rfl, rfl, (by walk_at "sq"), (by walk_at "at"), ?_⟩
  | refine ⟨_, _, rfl, (by walk_at "sq"), (by show ¬(HT.sIx 4 0 (some 2) = 0 ∧ HT.sIx 4 4 none = 4); decide), fun p hp => ?_⟩
  | refine ⟨_, _, _, _, rfl, rfl, (by walk_at "sq"), (by walk_at "sq"), (by intro h; cases h), len_line (Nat.le_of_ble_eq_true rfl), (fun h => by cases h), fun _ p hp => ?_⟩)
local macro_rules | `(tactic| walk_at "go") => `(tactic| repeat walk_at "go1")
local macro_rules | `(tactic| walk_at "dps") => `(tactic| first
  | exact DpAll.nil
  | (apply DpAll.cons; (focus (walk_at "dp")); (focus (walk_at "dps"))))
local macro_rules | `(tactic| walk_at "dp") => `(tactic| first
  | exact Dp.int _
  | exact Dp.bl _
  | exact Dp.str _
  | exact Dp.non
  | (apply Dp.tup; (focus (walk_at "sq")); (focus (walk_at "dps")))
  | (apply Dp.lst; (focus (walk_at "sq")); (focus (walk_at "dps"))))
local macro_rules | `(tactic| walk_at "sh") => `(tactic| (show (PyData.canLay0 _ && decide (PyData.depth _ ≤ 64)) = true; simp [PyData.canLay0, PyData.canLayAll0, PyData.depth, PyData.depthAll]))
/-- a deep comparison: what is left is the if -/
local macro_rules | `(tactic| walk_at "ne") => `(tactic| (apply t_ne; (focus (walk_at "dp")); (focus (walk_at "dp")); (focus (walk_at "sh")); (focus (walk_at "sh")); refine ⟨_, rfl, ?_⟩))
local macro_rules | `(tactic| walk_at "neS") => `(tactic| (walk_at "ne"; refine ne_self ?_ ?_ ?_; (focus (walk_at "sh"))))
/-! ### more words -/
local macro_rules | `(tactic| walk_at "go2") => `(tactic| first
  | walk_at "go1"
  | refine ⟨(⟨by omega, by omega⟩ : CDiv _ _), ?_⟩
  | refine ⟨(Or.inl ⟨by omega, by omega⟩ : CMul _ _), ?_⟩
  | refine ⟨(Or.inr ⟨by omega, by omega⟩ : CMul _ _), ?_⟩
  | refine ⟨(by show (0 : Int) < _; omega), ?_⟩)
local macro_rules | `(tactic| walk_at "gx") => `(tactic| repeat walk_at "go2")
/-! ### views that grow while objects outside of them change -/
structure Grow (U H U' H' : Hp) : Prop where
  vv : Same U U'
  vh : Same U' H'
  nw : ∀ a, U' a ≠ none → U a ≠ none ∨ H a = none
theorem Ext.grow {U H U' H' : Hp} (x : Ext U H U' H') : Grow U H U' H' := ⟨x.vv, x.vh, x.nw⟩
theorem Grow.refl {U H : Hp} (s : Same U H) : Grow U H U H := ⟨Same.refl U, s, fun _ h => Or.inl h⟩
theorem Grow.keepOut {U H U' H' : Hp} (x : Grow U H U' H') {D : Addr} (h : U D = none) (hd : H D ≠ none) : U' D = none := by
  cases e : U' D with
  | none => rfl
  | some o =>
    rcases x.nw D (by rw [e]; exact fun z => by cases z) with q | q
    · exact absurd h q
    · exact absurd q hd
/-- an object outside of the view changes -/
theorem Grow.poke {U H U' H' : Hp} (x : Grow U H U' H') {D : Addr} {o : HO} (h : U' D = none) : Grow U H U' (upd H' D o) :=
  ⟨x.vv, fun b u e => by
    have hb : b ≠ D := fun z => by rw [z, h] at e; cases e
    rw [upd_ne hb]; exact x.vh b u e, x.nw⟩
theorem same_poke {U H : Hp} (s : Same U H) {D : Addr} {o : HO} (h : U D = none) : Same U (upd H D o) := fun b u e => by
  have hb : b ≠ D := fun z => by rw [z, h] at e; cases e
  rw [upd_ne hb]; exact s b u e
/-- what was new behind a change of what the view has not is new ahead of it, if that was there -/
theorem Grow.from_ {U H H1 U' H' : Hp} (x : Grow U H1 U' H') (h : ∀ a, H1 a = none → H a = none) : Grow U H U' H' :=
  ⟨x.vv, x.vh, fun a e => (x.nw a e).imp id (h a)⟩
theorem Grow.trans {U H U1 H1 U2 H2 : Hp} (a : Grow U H U1 H1) (b : Grow U1 H1 U2 H2) (h : ∀ a, H1 a = none → H a = none) : Grow U H U2 H2 :=
  ⟨a.vv.trans b.vv, b.vh, fun x e => by
    rcases b.nw x e with q | q
    · exact a.nw x q
    · exact Or.inr (h x q)⟩
theorem none_poke {H : Hp} {D : Addr} {o : HO} (hd : H D ≠ none) : ∀ a, upd H D o a = none → H a = none := fun a e => by
  by_cases h : a = D
  · subst h; rw [upd_same] at e; cases e
  · rw [upd_ne h] at e; exact e
theorem none_same {H H' : Hp} (s : Same H H') : ∀ a, H' a = none → H a = none := fun a e => s.free e
/-! ### comprehensions over a walk that makes objects (zip) -/
theorem Ext.later {V H V' H' H2 : Hp} (x : Ext V H V' H') (s : Same H' H2) : Ext V H V' H2 := ⟨x.vv, x.vh.trans s, x.hh.trans s, x.nw⟩
theorem lc_dpS {J : It} {n : Nat} {G : Hp → Prop} {Y : Nat → Hp → V → Hp → Prop} (wk : Walk J n G Y) {K : PySem.W.Frag} {V0 H0 : Hp} {D : Addr} {g : TG} {tt : TT} {te : TE} {vs : List Nat} {σ : St} {Qd : Hp → Prop} (f : Nat → Option PyData) (σ0 : St) (hσ : wipe σ vs = σ0) (s0 : Same V0 H0) (hD : H0 D = none) (hn : n < 100000)
    (hG : ∀ H, Same H0 H → G H) (hY : ∀ i H x H', Y i H x H' → Same H H')
    (hs : ∀ i x V H H', i < n → Ext V0 H0 V H → Y i H x H' → ∀ (Qy : VK) (Qn : Hp → Prop), (∀ d y V' H2, f i = some d → Ext V H' V' H2 → Dp K V' y d → Qy y H2) → (f i = none → ∀ V' H2, Ext V H' V' H2 → Qn H2) →
      g x σ0 H' fun σ2 H2 => wipe σ2 vs = σ0 ∧ tt σ2 H2 fun b H3 => if b = true then te σ2 H3 Qy else Qn H3)
    (hd : ∀ (U H : Hp) (xs : List V), Ext V0 H0 U H → U D = some (.lst xs) → DpAll K U xs (fm f n) → Dp K U (.ref D) (.list (fm f n)) → Qd H) :
    ∃ W : Nat → Nat → Hp → Prop, (∃ m, W 0 m (upd H0 D (.lst []))) ∧ ∀ i m H, W i m H →
      (J.stop i H ∧ Qd H) ∨ (J.go i H ∧ ∃ Nx : Hp → Prop, (∀ H', Nx H' → ∃ m', m' < m ∧ W (i + 1) m' H') ∧ ∀ x H', J.yld i H x H' → g x (wipe σ vs) H' fun σ2 H2 => wipe σ2 vs = wipe σ vs ∧ tt σ2 H2 fun b H3 =>
        if b = true then te σ2 H3 fun y H4 => ∃ acc, H4 D = some (.lst acc) ∧ acc.length < sizeLine ∧ Nx (upd H4 D (.lst (acc ++ [y]))) else Nx H3) := by
  subst hσ
  refine lc_it wk (fun i H => LcInv K V0 H0 D (fm f i) H) (LcInv.start s0 hD) (fun i H _ p => ?_) (fun i x H H' hi p y => ?_) (fun H p => ?_)
  · obtain ⟨V, xs, x, _⟩ := p.ex
    exact hG H x.hh
  · obtain ⟨V, xs, x0, hv, hdd, dp⟩ := p.ex
    have sy := hY i H x H' y
    have x1 := x0.later sy
    have hdd' := sy _ _ hdd
    refine hs i x V H H' hi x0 y _ _ (fun d y' V' H4 e x2 dy => ?_) (fun e V' H4 x2 => ?_)
    · have hl : (fm f i).length < 100000 := Nat.lt_of_le_of_lt (fm_len f i) (Nat.lt_trans hi hn)
      obtain ⟨acc', a1, a2, a3⟩ := LcInv.push hD x1 hv hdd' dp x2 dy hl
      refine ⟨acc', a1, a2, ?_⟩
      rw [fm_succ, e]
      exact a3
    · have hv' : V' D = none := x2.keepOut hv (by rw [hdd']; exact fun z => by cases z)
      rw [fm_succ, e]
      show LcInv K V0 H0 D (fm f i ++ []) H4
      rw [List.append_nil]
      exact ⟨V', xs, x1.trans x2, hv', x2.hh _ _ hdd', dp.to x2.vv⟩
  · obtain ⟨U, xs, x, hv, hdd, dp⟩ := p.ex
    exact hd _ H xs (x.take hD hv hdd) upd_same (dp.to (same_upd hv)) (.lst (SqL.of upd_same) (dp.to (same_upd hv)))
theorem fm_fmap {α β : Type} (f : α → Option β) (xs : List α) (n : Nat) (h : n = xs.length) (g : Nat → Option β) (hg : ∀ i x, xs[i]? = some x → g i = f x) : fm g n = xs.filterMap f := by
  subst h
  have : ∀ (m : Nat), m ≤ xs.length → fm g m = (xs.take m).filterMap f := by
    intro m
    induction m with
    | zero => intro _; rfl
    | succ m ih =>
      intro hm
      rw [fm_succ, ih (by omega), hg m _ (List.getElem?_eq_getElem (by omega)), List.take_succ_eq_append_getElem (by omega), List.filterMap_append]
      congr 1
  rw [this _ (Nat.le_refl _), List.take_length]
def rListOf (K : PySem.W.Frag) : List V → Hp → VK → Prop := fun xs H Q => ∃ p ys, xs = [V.ref p] ∧ (SqL K H p ys ∨ SqT K H p ys) ∧ ∀ l, H l = none → Q (V.ref l) (upd H l (HO.lst ys))
/-! ### rows of slots, goods, and copies -/
def rwD (r : Int × List PyData) : PyData := .tuple (.int r.1 :: r.2)
def othR (sl : Int) (rows : List (Int × List PyData)) : List (Int × List PyData) := rows.filter fun r => decide (r.1 ≠ sl)
def gdD (g : Str × List Int) : PyData := .tuple [.str g.1, .list (g.2.map PyData.int)]
theorem filterMap_oth (sl : Int) (rows : List (Int × List PyData)) : (rows.filterMap fun r => if r.1 ≠ sl then some (rwD r) else none) = (othR sl rows).map rwD := by
  unfold othR
  induction rows with
  | nil => rfl
  | cons r t ih =>
    by_cases c : r.1 ≠ sl
    · rw [List.filterMap_cons_some (by rw [if_pos c]), List.filter_cons_of_pos (by exact decide_eq_true c), List.map_cons, ih]
    · rw [List.filterMap_cons_none (by rw [if_neg c]), List.filter_cons_of_neg (by simpa using c), ih]
/-- a list that stands in the view -/
def LsAt (K : PySem.W.Frag) (U : Hp) (v : V) (rows : List (Int × List PyData)) : Prop := ∃ a zs, v = .ref a ∧ U a = some (.lst zs) ∧ DpAll K U zs (rows.map rwD)
theorem LsAt.to {K : PySem.W.Frag} {U U' : Hp} {v : V} {rows : List (Int × List PyData)} (h : LsAt K U v rows) (s : Same U U') : LsAt K U' v rows := by
  obtain ⟨a, zs, e, e1, d⟩ := h
  exact ⟨a, zs, e, s _ _ e1, d.to s⟩
theorem LsAt.dp {K : PySem.W.Frag} {U : Hp} {v : V} {rows : List (Int × List PyData)} (h : LsAt K U v rows) : Dp K U v (.list (rows.map rwD)) := by
  obtain ⟨a, zs, rfl, e1, d⟩ := h
  exact .lst (SqL.of e1) d
def sp__of_others (K : PySem.W.Frag) : Sp := fun vs H Q _ => ∃ (v : V) (rows : List (Int × List PyData)) (sl : Int) (U : Hp), vs = [v, .int sl] ∧ Dp K U v (.list (rows.map rwD)) ∧ Same U H ∧ rows.length < 90000 ∧
  ∀ v' U' H', Ext U H U' H' → LsAt K U' v' (othR sl rows) → Q v' H'
theorem sc__of_others : FnScope ["rows", "slot", "row"] ["rows", "slot"] (defScope s__of_others) := ⟨rfl, rfl, rfl, by decide +kernel, rfl, by decide +kernel, by decide +kernel⟩
theorem ok__of_others (T : Txt K mg A) : FnOk P w K mg base CX0 1 A.f_of_others A.d_of_others ["rows", "slot"] (sp__of_others K) := by
  refine T.F_of_others.ok sc__of_others (fun vs H Q E h => ?_) (fun cdv Ar outer s H vs Q E hr h => ?_)
  · obtain ⟨_, _, _, _, rfl, _⟩ := h
    rfl
  · obtain ⟨v, rows, sl, U, rfl, dr, sU, hl, q⟩ := h
    obtain ⟨a, zs, rfl, qs, ds⟩ := dp_list dr
    have hzl : zs.length = rows.length := by rw [dpall_len ds, List.length_map]
    refine ⟨_, (pss_one (ps_ret (pe_lc (own := [("row", 2)]) (g := (gName 2)) rfl sc__of_others.nd (pi_list (pv 0)) (blkOk_by (own := [("row", 2)]) (N := ["rows", "slot", "row"]) (sc := defScope s__of_others) (by decide +kernel)) (fun _ _ _ _ _ => (pg_name (i := 2) sc__of_others.nd rfl (Or.inl rfl))) (fun _ _ _ _ _ => (pts_one (pt_cmpR op_ne (pe_ix (r := rIxT K) ix_tup (pv 2) pe_int (fun _ _ => rfl)) (pv 1) (nomark _)))) (fun _ _ _ _ _ => by exact (pv 2))))), ?_⟩
    refine ⟨_, rfl, a, rfl, ⟨_, sU.seq qs⟩, fun D hD => ?_⟩
    refine lc_dp (walk_list (K := K) (a := a) (xs := zs)) (K := K) (V0 := U) (H0 := H) (fun i => (rows[i]?).bind fun r => if r.1 ≠ sl then some (rwD r) else none) _ rfl sU hD (by omega) (fun H' s => s.seq (sU.seq qs)) (fun i x H H' y => y.1) ?_ ?_
    · rintro n z U2 H4 hn' xx ⟨_, hz⟩ Qy Qn hy hno
      obtain ⟨d, hd, dv⟩ := dpall_get ds hz
      rw [List.getElem?_map] at hd
      obtain ⟨r, hr, rfl⟩ := Option.map_eq_some_iff.mp hd
      obtain ⟨pt, ws, rfl, qw, dw⟩ := dp_tuple (dv.to xx.vv)
      cases dw with
      | cons d1 d2 =>
        cases d1
        have qw' := xx.vh.sqt qw
        walk_at "go"
        have e : decide (V.int r.1 = V.int sl) = decide (r.1 = sl) := decide_eq_decide.mpr ⟨fun z => (by injection z), fun z => (by rw [z])⟩
        rw [e]
        by_cases c : r.1 = sl
        · rw [decide_eq_true c]
          exact if_f (b := !true) rfl (hno (by rw [hr]; exact if_neg (fun n => n c)) _ _ (Ext.refl xx.vh))
        · rw [decide_eq_false c]
          exact if_t (b := !false) rfl ⟨_, rfl, hy (rwD r) _ _ _ (by rw [hr]; exact if_pos c) (Ext.refl xx.vh) (.tup qw (.cons (.int _) d2))⟩
    · rintro U2 H4 ws xx uD dA dl
      rw [fm_fmap (fun r => if r.1 ≠ sl then some (rwD r) else none) rows _ hzl _ (fun i x h => by rw [h]; rfl), filterMap_oth] at dA
      exact q _ _ _ xx ⟨D, ws, rfl, uD, dA⟩
def sp__copied (K : PySem.W.Frag) : Sp := fun vs H Q _ => ∃ (v : V) (g : List (Str × List Int)) (U : Hp), vs = [v] ∧ Dp K U v (.list (g.map gdD)) ∧ Same U H ∧ g.length < 90000 ∧ (∀ x ∈ g, x.2.length < 90000) ∧
  ∀ v' U' H', Ext U H U' H' → Dp K U' v' (.list (g.map gdD)) → Q v' H'
theorem sc__copied : FnScope ["goods", "kind", "octets"] ["goods"] (defScope s__copied) := ⟨rfl, rfl, rfl, by decide +kernel, rfl, by decide +kernel, by decide +kernel⟩
theorem ok__copied (T : Txt K mg A) : FnOk P w K mg base CX0 1 A.f_copied A.d_copied ["goods"] (sp__copied K) := by
  refine T.F_copied.ok sc__copied (fun vs H Q E h => ?_) (fun cdv Ar outer s H vs Q E hr h => ?_)
  · obtain ⟨_, _, _, rfl, _⟩ := h
    rfl
  · obtain ⟨v, g, U, rfl, dr, sU, hl, hg, q⟩ := h
    obtain ⟨a, zs, rfl, qs, ds⟩ := dp_list dr
    have hzl : zs.length = g.length := by rw [dpall_len ds, List.length_map]
    refine ⟨_, (pss_one (ps_ret (pe_lc (own := [("kind", 1), ("octets", 2)]) (g := (gTup K 2 (gCons (gName 1) (gCons (gName 2) gNil)))) (tt := tYes) rfl sc__copied.nd (pi_list (pv 0)) (blkOk_by (own := [("kind", 1), ("octets", 2)]) (N := ["goods", "kind", "octets"]) (sc := defScope s__copied) (by decide +kernel)) (fun _ _ _ _ _ => by exact (pg_tup rfl (pgs_cons (pg_name (i := 1) sc__copied.nd rfl (Or.inl rfl)) (pgs_cons (pg_name (i := 2) sc__copied.nd rfl (Or.inl rfl)) pgs_nil)))) (fun _ _ _ _ _ => pts_nil) (fun _ _ _ _ _ => by exact (pe_tup (pa_cons (pv 1) (pa_cons (pe_callTy (r := rListOf K) call_list_of (by rfl) T.list (by decide +kernel) (pa_cons (pv 2) pa_nil)) pa_nil))))))), ?_⟩
    refine ⟨_, rfl, a, rfl, ⟨_, sU.seq qs⟩, fun D hD => ?_⟩
    refine lc_dp (walk_list (K := K) (a := a) (xs := zs)) (K := K) (V0 := U) (H0 := H) (fun i => (g[i]?).map gdD) _ rfl sU hD (by omega) (fun H' s => s.seq (sU.seq qs)) (fun i x H H' y => y.1) ?_ ?_
    · rintro n z U2 H4 hn' xx ⟨_, hz⟩ Qy Qn hy hno
      obtain ⟨d, hd, dv⟩ := dpall_get ds hz
      rw [List.getElem?_map] at hd
      obtain ⟨r, hr, rfl⟩ := Option.map_eq_some_iff.mp hd
      have hr2 := hg r (List.mem_of_getElem? hr)
      obtain ⟨pt, ws, rfl, qw, dw⟩ := dp_tuple (dv.to xx.vv)
      cases dw with
      | cons d1 d2 => cases d2 with
        | cons d2 d3 =>
          cases d3
          cases d1
          obtain ⟨po, os, rfl, qo, dos⟩ := dp_list d2
          have qw' := xx.vh.sqt qw
          have qo' := xx.vh.seq qo
          have hol : os.length = r.2.length := by rw [dpall_len dos, List.length_map]
          walk_at "go"
          intro l hl1
          have x1 := Ext.new (o := .lst os) xx.vh hl1
          have s1 := same_upd (o := .lst os) (none_of_same xx.vh hl1)
          walk_at "go"
          rename_i t ht
          have x2 := Ext.new (o := .tup [.str r.1, .ref l]) x1.vh ht
          have s2 := same_upd (o := .tup [.str r.1, .ref l]) (none_of_same x1.vh ht)
          exact hy (gdD r) _ _ _ (by rw [hr]; rfl) (x1.trans x2) (.tup (SqT.of upd_same) (.cons (.str _) (.cons (.lst (s2.seq (SqL.of upd_same)) ((dos.to s1).to s2)) .nil)))
    · rintro U2 H4 ws xx uD dA dl
      rw [hzl, fm_map] at dl
      exact q _ _ _ xx dl
/-! ### the exchange as an object: its lists are never changed, always put anew -/
theorem lk_ne {k k' : Str} {v : V} {r : List (Str × V)} (h : (k == k') = false) : List.lookup k ((k', v) :: r) = List.lookup k r := by rw [List.lookup_cons, h]
theorem pk_ne {f g : Str} {v x : V} {r : List (Str × V)} (h : g ≠ f) : putF f v ((g, x) :: r) = (g, x) :: putF f v r := by
  show (if g = f then _ else _) = _
  rw [if_neg h]
theorem pk_eq {f : Str} {v x : V} {r : List (Str × V)} : putF f v ((f, x) :: r) = (f, v) :: r := by
  show (if f = f then _ else _) = _
  rw [if_pos rfl]
structure Xm where
  gifts : List (Int × List PyData)
  primary : List (Int × List PyData)
  drags : List (Int × List PyData)
  sent : List (Int × List PyData)
  count : Int
  hov : PyData
def xF (g p d s a : V) (n : Int) (h : V) : List (Str × V) := [("gifts", g), ("primary", p), ("drags", d), ("sent", s), ("asked", a), ("count", .int n), ("hovered", h)]
theorem xF_d (g p d s a : V) (n : Int) (h : V) : (xF g p d s a n h).lookup ("drags" : Str) = some d := by
  unfold xF
  rw [lk_ne (by decide +kernel), lk_ne (by decide +kernel), List.lookup_cons_self]
theorem xF_pd (g p d s a d' : V) (n : Int) (h : V) : putF "drags" d' (xF g p d s a n h) = xF g p d' s a n h := by
  unfold xF
  rw [pk_ne (by decide +kernel), pk_ne (by decide +kernel), pk_eq]
theorem xF_g (g p d s a : V) (n : Int) (h : V) : (xF g p d s a n h).lookup ("gifts" : Str) = some (g) := by
  unfold xF
  rw [List.lookup_cons_self]
theorem xF_pg (g p d s a : V) (n : Int) (h : V) (x' : V) : putF "gifts" x' (xF g p d s a n h) = xF x' p d s a n h := by
  unfold xF
  rw [pk_eq]
theorem xF_p (g p d s a : V) (n : Int) (h : V) : (xF g p d s a n h).lookup ("primary" : Str) = some (p) := by
  unfold xF
  rw [lk_ne (by decide +kernel), List.lookup_cons_self]
theorem xF_pp (g p d s a : V) (n : Int) (h : V) (x' : V) : putF "primary" x' (xF g p d s a n h) = xF g x' d s a n h := by
  unfold xF
  rw [pk_ne (by decide +kernel), pk_eq]
theorem xF_s (g p d s a : V) (n : Int) (h : V) : (xF g p d s a n h).lookup ("sent" : Str) = some (s) := by
  unfold xF
  rw [lk_ne (by decide +kernel), lk_ne (by decide +kernel), lk_ne (by decide +kernel), List.lookup_cons_self]
theorem xF_ps (g p d s a : V) (n : Int) (h : V) (x' : V) : putF "sent" x' (xF g p d s a n h) = xF g p d x' a n h := by
  unfold xF
  rw [pk_ne (by decide +kernel), pk_ne (by decide +kernel), pk_ne (by decide +kernel), pk_eq]
theorem xF_a (g p d s a : V) (n : Int) (h : V) : (xF g p d s a n h).lookup ("asked" : Str) = some (a) := by
  unfold xF
  rw [lk_ne (by decide +kernel), lk_ne (by decide +kernel), lk_ne (by decide +kernel), lk_ne (by decide +kernel), List.lookup_cons_self]
theorem xF_pa (g p d s a : V) (n : Int) (h : V) (x' : V) : putF "asked" x' (xF g p d s a n h) = xF g p d s x' n h := by
  unfold xF
  rw [pk_ne (by decide +kernel), pk_ne (by decide +kernel), pk_ne (by decide +kernel), pk_ne (by decide +kernel), pk_eq]
theorem xF_n (g p d s a : V) (n : Int) (h : V) : (xF g p d s a n h).lookup ("count" : Str) = some (V.int n) := by
  unfold xF
  rw [lk_ne (by decide +kernel), lk_ne (by decide +kernel), lk_ne (by decide +kernel), lk_ne (by decide +kernel), lk_ne (by decide +kernel), List.lookup_cons_self]
theorem xF_pn (g p d s a : V) (n : Int) (h : V) (x' : Int) : putF "count" (.int x') (xF g p d s a n h) = xF g p d s a x' h := by
  unfold xF
  rw [pk_ne (by decide +kernel), pk_ne (by decide +kernel), pk_ne (by decide +kernel), pk_ne (by decide +kernel), pk_ne (by decide +kernel), pk_eq]
theorem xF_h (g p d s a : V) (n : Int) (h : V) : (xF g p d s a n h).lookup ("hovered" : Str) = some (h) := by
  unfold xF
  rw [lk_ne (by decide +kernel), lk_ne (by decide +kernel), lk_ne (by decide +kernel), lk_ne (by decide +kernel), lk_ne (by decide +kernel), lk_ne (by decide +kernel), List.lookup_cons_self]
theorem xF_ph (g p d s a : V) (n : Int) (h : V) (x' : V) : putF "hovered" x' (xF g p d s a n h) = xF g p d s a n x' := by
  unfold xF
  rw [pk_ne (by decide +kernel), pk_ne (by decide +kernel), pk_ne (by decide +kernel), pk_ne (by decide +kernel), pk_ne (by decide +kernel), pk_ne (by decide +kernel), pk_eq]
structure XAt (C : Addr) (K : PySem.W.Frag) (U H : Hp) (o : Addr) (m : Xm) (va : V) : Prop where
  uo : U o = none
  sU : Same U H
  ob : ∃ dx g p d s h, H o = some (.ins C dx (xF g p d s va m.count h)) ∧ LsAt K U g m.gifts ∧ LsAt K U p m.primary ∧ LsAt K U d m.drags ∧ LsAt K U s m.sent ∧ Dp K U h m.hov
  lg : m.gifts.length ≤ 60
  lp : m.primary.length ≤ 60
  ld : m.drags.length ≤ 60
  ls : m.sent.length ≤ 60
def sp_Exchange_drag (C : Addr) (K : PySem.W.Frag) : Sp := fun vs H Q _ => ∃ (o : Addr) (m : Xm) (va vg : V) (sl : Int) (g : List (Str × List Int)) (U : Hp), vs = [.ref o, .int sl, vg] ∧ XAt C K U H o m va ∧ Dp K U vg (.list (g.map gdD)) ∧ g.length < 1000 ∧ (∀ x ∈ g, x.2.length < 1000) ∧ m.drags.length < 60 ∧
  ∀ U' H', Grow U H U' H' → (∀ b u, H b = some u → b ≠ o → H' b = some u) → XAt C K U' H' o { m with drags := (sl, [.list (g.map gdD)]) :: m.drags } va → Q .non H'
theorem sc_Exchange_drag : FnScope ["self", "slot", "goods"] ["self", "slot", "goods"] (defScope s_Exchange_drag) := ⟨rfl, rfl, rfl, by decide +kernel, rfl, by decide +kernel, by decide +kernel⟩
theorem ok_Exchange_drag (T : Txt K mg A) : FnOk P w K mg base CX0 2 A.fExchange_drag A.dExchange_drag ["self", "slot", "goods"] (sp_Exchange_drag A.CExchange K) := by
  refine T.FExchange_drag.ok sc_Exchange_drag (fun vs H Q E h => ?_) (fun cdv Ar outer s H vs Q E hr h => ?_)
  · obtain ⟨_, _, _, _, _, _, _, rfl, _⟩ := h
    rfl
  · obtain ⟨o, m, va, vg, sl, g, U, rfl, X, dg, hg, hg2, hd, q⟩ := h
    obtain ⟨dx, fg, fp, fd, fs, fh, e1, d1, d2, ⟨ad, zd, rfl, ed, dd⟩, d4, d5⟩ := X.ob
    have hzd : zd.length = m.drags.length := by rw [dpall_len dd, List.length_map]
    refine ⟨_, (pss_one (ps_fld (pv 0) (pe_op op_cat (pe_lst (pa_cons (pe_tup (pa_cons (pv 1) (pa_cons (pe_call (ok__copied T) (hr.mono (by decide)) rfl T.g_copied T.k_copied T.b_copied .nil pass0 (pa_cons (pv 2) pa_nil)) pa_nil))) pa_nil)) (pe_fld (pv 0) rfl)) rfl)), ?_⟩
    walk_at "go"
    refine ⟨vg, g, U, rfl, dg, X.sU, by omega, fun x hx => by have := hg2 x hx; omega, fun vc U1 H1 x1 dc => ?_⟩
    walk_at "go"
    rename_i pt hpt pl hpl
    have x2 := x1.trans (Ext.new (o := .tup [.int sl, vc]) x1.vh hpt)
    have s2 := same_upd (o := .tup [.int sl, vc]) (none_of_same x1.vh hpt)
    have x3 := x2.trans (Ext.new (o := .lst [.ref pt]) x2.vh hpl)
    have s3 := same_upd (o := .lst [.ref pt]) (none_of_same x2.vh hpl)
    have e3 := x3.hh _ _ e1
    have ed3 := x3.hh _ _ (X.sU _ _ ed)
    have ept := (s3 _ _ (upd_same (H := U1) (a := pt) (o := .tup [.int sl, vc])))
    refine ⟨o, _, dx, _, .ref ad, rfl, e3, T.clExchange, T.nExchange_drags, xF_d _ _ _ _ _ _ _, ?_⟩
    refine ⟨pl, ad, _, _, rfl, rfl, upd_same, ed3, ?_, fun r hr => ?_⟩
    · rw [sizeLine_eq]; show 1 + zd.length ≤ _; omega
    walk_at "go"
    have x4 := x3.trans (Ext.new (o := .lst ([.ref pt] ++ zd)) x3.vh hr)
    have s4 := same_upd (o := .lst ([.ref pt] ++ zd)) (none_of_same x3.vh hr)
    have e4 := x4.hh _ _ e1
    have uo4 := x4.keepOut X.uo (by rw [e1]; exact fun z => by cases z)
    refine ⟨o, _, dx, _, rfl, e4, T.clExchange, T.nExchange_drags, (by show 7 < 1000; decide), ?_⟩
    rw [xF_pd]
    have hp : Dp K _ (.ref pt) (rwD (sl, [.list (g.map gdD)])) := .tup (SqT.of upd_same) (.cons (.int _) (.cons (dc.to s2) .nil))
    exact q _ _ (x4.grow.poke uo4) (fun b u e hb => by rw [upd_ne hb]; exact x4.hh _ _ e) ⟨uo4, (x4.grow.poke uo4).vh, ⟨dx, _, _, _, _, _, upd_same, d1.to x4.vv, d2.to x4.vv, ⟨r, _, rfl, upd_same, .cons ((hp.to s3).to s4) (dd.to x4.vv)⟩, d4.to x4.vv, d5.to x4.vv⟩, X.lg, X.lp, Nat.succ_le_of_lt hd, X.ls⟩
def sp_Exchange_relabelled (C : Addr) (K : PySem.W.Frag) : Sp := fun vs H Q _ => ∃ (o : Addr) (m : Xm) (va : V) (sl : Int) (U : Hp), vs = [.ref o, .int sl] ∧ XAt C K U H o m va ∧
  ∀ U' H', Grow U H U' H' → (∀ b u, H b = some u → b ≠ o → H' b = some u) → XAt C K U' H' o { m with gifts := othR sl m.gifts, primary := othR sl m.primary } va → Q .non H'
theorem sc_Exchange_relabelled : FnScope ["self", "slot"] ["self", "slot"] (defScope s_Exchange_relabelled) := ⟨rfl, rfl, rfl, by decide +kernel, rfl, by decide +kernel, by decide +kernel⟩
theorem ok_Exchange_relabelled (T : Txt K mg A) : FnOk P w K mg base CX0 2 A.fExchange_relabelled A.dExchange_relabelled ["self", "slot"] (sp_Exchange_relabelled A.CExchange K) := by
  refine T.FExchange_relabelled.ok sc_Exchange_relabelled (fun vs H Q E h => ?_) (fun cdv Ar outer s H vs Q E hr h => ?_)
  · obtain ⟨_, _, _, _, _, rfl, _⟩ := h
    rfl
  · obtain ⟨o, m, va, sl, U, rfl, X, q⟩ := h
    obtain ⟨dx, fg, fp, fd, fs, fh, e1, d1, d2, d3, d4, d5⟩ := X.ob
    refine ⟨_, (pss_cons (ps_fld (pv 0) (pe_call (ok__of_others T) (hr.mono (by decide)) rfl T.g_of_others T.k_of_others T.b_of_others .nil pass0 (pa_cons (pe_fld (pv 0) rfl) (pa_cons (pv 1) pa_nil))) rfl)
      (pss_one (ps_fld (pv 0) (pe_call (ok__of_others T) (hr.mono (by decide)) rfl T.g_of_others T.k_of_others T.b_of_others .nil pass0 (pa_cons (pe_fld (pv 0) rfl) (pa_cons (pv 1) pa_nil))) rfl))), ?_⟩
    walk_at "go"
    refine ⟨o, _, dx, _, fg, rfl, e1, T.clExchange, T.nExchange_gifts, xF_g _ _ _ _ _ _ _, ?_⟩
    have lg := X.lg
    have lp := X.lp
    walk_at "go"
    refine ⟨fg, m.gifts, sl, U, rfl, d1.dp, X.sU, by omega, fun vg U1 H1 x1 l1 => ?_⟩
    have e2 := x1.hh _ _ e1
    have uo1 := x1.keepOut X.uo (by rw [e1]; exact fun z => by cases z)
    walk_at "go"
    refine ⟨o, _, dx, _, rfl, e2, T.clExchange, T.nExchange_gifts, (by show 7 < 1000; decide), ?_⟩
    rw [xF_pg]
    have g1 := x1.grow.poke (o := .ins A.CExchange dx (xF vg fp fd fs va m.count fh)) uo1
    walk_at "go"
    refine ⟨o, _, dx, _, fp, rfl, upd_same, T.clExchange, T.nExchange_primary, xF_p _ _ _ _ _ _ _, ?_⟩
    walk_at "go"
    refine ⟨fp, m.primary, sl, U1, rfl, (d2.to x1.vv).dp, g1.vh, by omega, fun vp U2 H2 x2 l2 => ?_⟩
    have e3 := x2.hh _ _ upd_same
    have uo2 := x2.keepOut uo1 (by rw [upd_same]; exact fun z => by cases z)
    walk_at "go"
    refine ⟨o, _, dx, _, rfl, e3, T.clExchange, T.nExchange_primary, (by show 7 < 1000; decide), ?_⟩
    rw [xF_pp]
    have g2 := (g1.trans x2.grow fun a e => x1.hh.free (none_poke (by rw [e2]; exact fun z => by cases z) a e)).poke (o := .ins A.CExchange dx (xF vg vp fd fs va m.count fh)) uo2
    have vv := x1.vv.trans x2.vv
    exact q _ _ g2 (fun b u e hb => by rw [upd_ne hb]; exact x2.hh _ _ (by rw [upd_ne hb]; exact x1.hh _ _ e)) ⟨uo2, g2.vh, ⟨dx, _, _, _, _, _, upd_same, l1.to x2.vv, l2, d3.to vv, d4.to vv, d5.to vv⟩, Nat.le_trans (List.length_filter_le _ _) X.lg, Nat.le_trans (List.length_filter_le _ _) X.lp, X.ld, X.ls⟩
def sp_Exchange_give (C : Addr) (K : PySem.W.Frag) : Sp := fun vs H Q _ => ∃ (o : Addr) (m : Xm) (va vg : V) (sl : Int) (b : Bool) (g : List (Str × List Int)) (U : Hp), vs = [.ref o, .int sl, vg, .bl b] ∧ XAt C K U H o m va ∧ Dp K U vg (.list (g.map gdD)) ∧ g.length < 1000 ∧ (∀ x ∈ g, x.2.length < 1000) ∧ m.gifts.length < 60 ∧ m.primary.length < 60 ∧
  ∀ U' H', Grow U H U' H' → (∀ b u, H b = some u → b ≠ o → H' b = some u) →
    XAt C K U' H' o (if b then { m with primary := (sl, [.list (g.map gdD)]) :: othR sl m.primary } else { m with gifts := (sl, [.list (g.map gdD)]) :: othR sl m.gifts }) va → Q .non H'
theorem sc_Exchange_give : FnScope ["self", "slot", "goods", "primary", "given"] ["self", "slot", "goods", "primary"] (defScope s_Exchange_give) := ⟨rfl, rfl, rfl, by decide +kernel, rfl, by decide +kernel, by decide +kernel⟩
theorem ok_Exchange_give (T : Txt K mg A) : FnOk P w K mg base CX0 2 A.fExchange_give A.dExchange_give ["self", "slot", "goods", "primary"] (sp_Exchange_give A.CExchange K) := by
  refine T.FExchange_give.ok sc_Exchange_give (fun vs H Q E h => ?_) (fun cdv Ar outer s H vs Q E hr h => ?_)
  · obtain ⟨_, _, _, _, _, _, _, _, rfl, _⟩ := h
    rfl
  · obtain ⟨o, m, va, vg, sl, b, g, U, rfl, X, dg, hg, hg2, hgl, hpl, q⟩ := h
    obtain ⟨dx, fg, fp, fd, fs, fh, e1, d1, d2, d3, d4, d5⟩ := X.ob
    refine ⟨_, (pss_cons (ps_set (i := 4) sc_Exchange_give.nd rfl (Or.inl rfl) (pe_op op_cat (pe_lst (pa_cons (pe_tup (pa_cons (pv 1) (pa_cons (pe_call (ok__copied T) (hr.mono (by decide)) rfl T.g_copied T.k_copied T.b_copied .nil pass0 (pa_cons (pv 2) pa_nil)) pa_nil))) pa_nil)) (pe_call (ok__of_others T) (hr.mono (by decide)) rfl T.g_of_others T.k_of_others T.b_of_others .nil pass0 (pa_cons (pe_ifExp (pt_truth (pv 3) (by intro _; rfl)) (pe_fld (pv 0) rfl) (pe_fld (pv 0) rfl)) (pa_cons (pv 1) pa_nil)))))
      (pss_one (ps_if (pt_truth (pv 3) (by intro _; rfl))
      (pss_one (ps_fld (pv 0) (pv 4) rfl))
      (pss_one (ps_fld (pv 0) (pv 4) rfl))))), ?_⟩
    walk_at "go"
    refine ⟨vg, g, U, rfl, dg, X.sU, by omega, fun x hx => by have := hg2 x hx; omega, fun vc U1 H1 x1 dc => ?_⟩
    walk_at "go"
    rename_i pt hpt pl hpl1
    have x2 := x1.trans (Ext.new (o := .tup [.int sl, vc]) x1.vh hpt)
    have s2 := same_upd (o := .tup [.int sl, vc]) (none_of_same x1.vh hpt)
    have x3 := x2.trans (Ext.new (o := .lst [.ref pt]) x2.vh hpl1)
    have s3 := same_upd (o := .lst [.ref pt]) (none_of_same x2.vh hpl1)
    have e3 := x3.hh _ _ e1
    have hp : Dp K _ (.ref pt) (rwD (sl, [.list (g.map gdD)])) := .tup (SqT.of upd_same) (.cons (.int _) (.cons (dc.to s2) .nil))
    have hp3 := hp.to s3
    cases b with
    | true =>
      walk_at "go"
      refine ⟨o, _, dx, _, fp, rfl, e3, T.clExchange, T.nExchange_primary, xF_p _ _ _ _ _ _ _, ?_⟩
      walk_at "go"
      refine ⟨fp, m.primary, sl, _, rfl, (d2.to x3.vv).dp, x3.vh, by omega, fun vr U4 H4 x4 l4 => ?_⟩
      obtain ⟨ar, zr, rfl, er, dr⟩ := l4
      have hlo : (othR sl m.primary).length ≤ m.primary.length := List.length_filter_le _ _
      have hzr : zr.length = (othR sl m.primary).length := by rw [dpall_len dr, List.length_map]
      have x5 := x3.trans x4
      refine ⟨pl, ar, _, _, rfl, rfl, x4.hh _ _ upd_same, x4.vh _ _ er, ?_, fun r hr => ?_⟩
      · rw [sizeLine_eq]; show 1 + zr.length ≤ _; omega
      have x6 := x5.trans (Ext.new (o := .lst ([.ref pt] ++ zr)) x5.vh hr)
      have s6 := same_upd (o := .lst ([.ref pt] ++ zr)) (none_of_same x5.vh hr)
      have e6 := x6.hh _ _ e1
      have uo6 := x6.keepOut X.uo (by rw [e1]; exact fun z => by cases z)
      walk_at "go"
      refine ⟨o, _, dx, _, rfl, e6, T.clExchange, T.nExchange_primary, (by show 7 < 1000; decide), ?_⟩
      rw [xF_pp]
      exact q _ _ (x6.grow.poke uo6) (fun b u e hb => by rw [upd_ne hb]; exact x6.hh _ _ e) ⟨uo6, (x6.grow.poke uo6).vh, ⟨dx, _, _, _, _, _, upd_same, d1.to x6.vv, ⟨r, _, rfl, upd_same, .cons ((hp3.to x4.vv).to s6) (dr.to s6)⟩, d3.to x6.vv, d4.to x6.vv, d5.to x6.vv⟩, X.lg, Nat.succ_le_of_lt (Nat.lt_of_le_of_lt hlo (by assumption)), X.ld, X.ls⟩
    | false =>
      walk_at "go"
      refine ⟨o, _, dx, _, fg, rfl, e3, T.clExchange, T.nExchange_gifts, xF_g _ _ _ _ _ _ _, ?_⟩
      walk_at "go"
      refine ⟨fg, m.gifts, sl, _, rfl, (d1.to x3.vv).dp, x3.vh, by omega, fun vr U4 H4 x4 l4 => ?_⟩
      obtain ⟨ar, zr, rfl, er, dr⟩ := l4
      have hlo : (othR sl m.gifts).length ≤ m.gifts.length := List.length_filter_le _ _
      have hzr : zr.length = (othR sl m.gifts).length := by rw [dpall_len dr, List.length_map]
      have x5 := x3.trans x4
      refine ⟨pl, ar, _, _, rfl, rfl, x4.hh _ _ upd_same, x4.vh _ _ er, ?_, fun r hr => ?_⟩
      · rw [sizeLine_eq]; show 1 + zr.length ≤ _; omega
      have x6 := x5.trans (Ext.new (o := .lst ([.ref pt] ++ zr)) x5.vh hr)
      have s6 := same_upd (o := .lst ([.ref pt] ++ zr)) (none_of_same x5.vh hr)
      have e6 := x6.hh _ _ e1
      have uo6 := x6.keepOut X.uo (by rw [e1]; exact fun z => by cases z)
      walk_at "go"
      refine ⟨o, _, dx, _, rfl, e6, T.clExchange, T.nExchange_gifts, (by show 7 < 1000; decide), ?_⟩
      rw [xF_pg]
      exact q _ _ (x6.grow.poke uo6) (fun b u e hb => by rw [upd_ne hb]; exact x6.hh _ _ e) ⟨uo6, (x6.grow.poke uo6).vh, ⟨dx, _, _, _, _, _, upd_same, ⟨r, _, rfl, upd_same, .cons ((hp3.to x4.vv).to s6) (dr.to s6)⟩, d2.to x6.vv, d3.to x6.vv, d4.to x6.vv, d5.to x6.vv⟩, Nat.succ_le_of_lt (Nat.lt_of_le_of_lt hlo (by assumption)), X.lp, X.ld, X.ls⟩
def sp_Exchange_hover (C : Addr) (K : PySem.W.Frag) : Sp := fun vs H Q _ => ∃ (o : Addr) (m : Xm) (va vt : V) (t : PyData) (U : Hp), vs = [.ref o, vt] ∧ XAt C K U H o m va ∧ Dp K U vt t ∧
  ∀ H', (∀ b u, H b = some u → b ≠ o → H' b = some u) → (∀ b, H' b = none → H b = none) → XAt C K U H' o { m with hov := t } va → Q .non H'
theorem sc_Exchange_hover : FnScope ["self", "target"] ["self", "target"] (defScope s_Exchange_hover) := ⟨rfl, rfl, rfl, by decide +kernel, rfl, by decide +kernel, by decide +kernel⟩
theorem ok_Exchange_hover (T : Txt K mg A) : FnOk P w K mg base CX0 1 A.fExchange_hover A.dExchange_hover ["self", "target"] (sp_Exchange_hover A.CExchange K) := by
  refine T.FExchange_hover.ok sc_Exchange_hover (fun vs H Q E h => ?_) (fun cdv Ar outer s H vs Q E hr h => ?_)
  · obtain ⟨_, _, _, _, _, _, rfl, _⟩ := h
    rfl
  · obtain ⟨o, m, va, vt, t, U, rfl, X, dt, q⟩ := h
    obtain ⟨dx, fg, fp, fd, fs, fh, e1, d1, d2, d3, d4, d5⟩ := X.ob
    refine ⟨_, (pss_one (ps_fld (pv 0) (pv 1) rfl)), ?_⟩
    walk_at "go"
    refine ⟨o, _, dx, _, rfl, e1, T.clExchange, T.nExchange_hovered, (by show 7 < 1000; decide), ?_⟩
    rw [xF_ph]
    exact q _ (fun b u e hb => by rw [upd_ne hb]; exact e) (none_poke (by rw [e1]; exact fun z => by cases z)) ⟨X.uo, ((Ext.refl X.sU).grow.poke (o := .ins A.CExchange dx (xF fg fp fd fs va m.count vt)) X.uo).vh, ⟨dx, _, _, _, _, _, upd_same, d1, d2, d3, d4, dt⟩, X.lg, X.lp, X.ld, X.ls⟩
/-! ### what is sent: rows of a slot, a name and octets -/
def snD (r : Int × Str × List Int) : Int × List PyData := (r.1, [.str r.2.1, .list (r.2.2.map PyData.int)])
def unsR (sl : Int) (n : Str) (S : List (Int × Str × List Int)) : List (Int × Str × List Int) := S.filter fun r => !decide (r.1 = sl ∧ r.2.1 = n)
theorem filterMap_uns (sl : Int) (n : Str) (S : List (Int × Str × List Int)) : (S.filterMap fun r => if ¬ (r.1 = sl ∧ r.2.1 = n) then some (rwD (snD r)) else none) = ((unsR sl n S).map snD).map rwD := by
  unfold unsR
  induction S with
  | nil => rfl
  | cons r t ih =>
    by_cases c : r.1 = sl ∧ r.2.1 = n
    · rw [List.filterMap_cons_none (by rw [if_neg (fun z => z c)]), List.filter_cons_of_neg (by simp [c]), ih]
    · rw [List.filterMap_cons_some (by rw [if_pos c]), List.filter_cons_of_pos (by rw [decide_eq_false c]; rfl), List.map_cons, List.map_cons, ih]
theorem eqv_pair (a b : Int) (x y : Str) : PyData.eqv (.tuple [.int a, .str x]) (.tuple [.int b, .str y]) = decide (a = b ∧ x = y) := by
  have e : PyData.eqv (.tuple [.int a, .str x]) (.tuple [.int b, .str y]) = (a == b && (x == y && true)) := rfl
  rw [e, Bool.and_true]
  by_cases h1 : a = b <;> by_cases h2 : x = y <;> simp [h1, h2]
theorem sh_pair (a : Int) {x : Str} (h : PyData.strOk x = true) : SeqAt.shaped (.tuple [.int a, .str x]) = true := Sh.shaped (sh_tuple (n := 0) fun d hd => by
  simp only [List.mem_cons, List.not_mem_nil, or_false] at hd
  rcases hd with rfl | rfl
  · exact sh_int _
  · exact sh_str h)
def sp_Exchange_unsend (C : Addr) (K : PySem.W.Frag) : Sp := fun vs H Q _ => ∃ (o : Addr) (m : Xm) (S : List (Int × Str × List Int)) (va : V) (sl : Int) (n : Str) (U : Hp), vs = [.ref o, .int sl, .str n] ∧ XAt C K U H o m va ∧ m.sent = S.map snD ∧ PyData.strOk n = true ∧ (∀ r ∈ S, PyData.strOk r.2.1 = true) ∧
  ∀ U' H', Grow U H U' H' → (∀ b u, H b = some u → b ≠ o → H' b = some u) → XAt C K U' H' o { m with sent := (unsR sl n S).map snD } va → Q .non H'
theorem sc_Exchange_unsend : FnScope ["self", "slot", "name", "row"] ["self", "slot", "name"] (defScope s_Exchange_unsend) := ⟨rfl, rfl, rfl, by decide +kernel, rfl, by decide +kernel, by decide +kernel⟩
theorem ok_Exchange_unsend (T : Txt K mg A) : FnOk P w K mg base CX0 2 A.fExchange_unsend A.dExchange_unsend ["self", "slot", "name"] (sp_Exchange_unsend A.CExchange K) := by
  refine T.FExchange_unsend.ok sc_Exchange_unsend (fun vs H Q E h => ?_) (fun cdv Ar outer s H vs Q E hr h => ?_)
  · obtain ⟨_, _, _, _, _, _, _, rfl, _⟩ := h
    rfl
  · obtain ⟨o, m, S, va, sl, n, U, rfl, X, hS, on, oS, q⟩ := h
    obtain ⟨dx, fg, fp, fd, fs, fh, e1, d1, d2, d3, ⟨a, zs, rfl, ea, ds⟩, d5⟩ := X.ob
    have hzl : zs.length = S.length := by rw [dpall_len ds, hS, List.length_map, List.length_map]
    have hSl : S.length ≤ 60 := by have := X.ls; rw [hS, List.length_map] at this; exact this
    rw [hS, List.map_map] at ds
    have ea' := X.sU _ _ ea
    refine ⟨_, (pss_one (ps_fld (pv 0) (pe_lc (own := [("row", 3)]) (g := (gName 3)) rfl sc_Exchange_unsend.nd (pi_list (pe_fld (pv 0) rfl)) (blkOk_by (own := [("row", 3)]) (N := ["self", "slot", "name", "row"]) (sc := defScope s_Exchange_unsend) (by decide +kernel)) (fun _ _ _ _ _ => (pg_name (i := 3) sc_Exchange_unsend.nd rfl (Or.inl rfl))) (fun _ _ _ _ _ => (pts_one (pt_cmpR (r := rNeD K) (op_neD hr.units) (pe_slice (r := rSlT K) sl_tup (pv 3) po_none (po_some pe_int)) (pe_tup (pa_cons (pv 1) (pa_cons (pv 2) pa_nil))) (nomark _)))) (fun _ _ _ _ _ => by exact (pv 3))) rfl)), ?_⟩
    walk_at "go"
    refine ⟨o, _, dx, _, .ref a, rfl, e1, T.clExchange, T.nExchange_sent, xF_s _ _ _ _ _ _ _, ?_⟩
    refine ⟨a, rfl, ⟨_, SqL.of ea'⟩, fun D hD => ?_⟩
    refine lc_dp (walk_list (K := K) (a := a) (xs := zs)) (K := K) (V0 := U) (H0 := H) (fun i => (S[i]?).bind fun r => if ¬ (r.1 = sl ∧ r.2.1 = n) then some (rwD (snD r)) else none) _ rfl X.sU hD (by omega) (fun H' s => s.seq (SqL.of ea')) (fun i x H H' y => y.1) ?_ ?_
    · rintro k z U2 H4 hn' xx ⟨_, hz⟩ Qy Qn hy hno
      obtain ⟨d, hd, dv⟩ := dpall_get ds hz
      rw [List.getElem?_map] at hd
      obtain ⟨r, hr, rfl⟩ := Option.map_eq_some_iff.mp hd
      obtain ⟨pt, ws, rfl, qw, dw⟩ := dp_tuple (dv.to xx.vv)
      cases dw with
      | cons c1 c2 => cases c2 with
        | cons c2 c3 => cases c3 with
          | cons c3 c4 =>
            cases c4
            cases c1
            cases c2
            obtain ⟨po, os, e0, _, _⟩ := dp_list c3
            subst e0
            have qw' := xx.vh.sqt qw
            walk_at "go"
            refine ⟨pt, _, rfl, qw', (by have h3 : ¬ (HT.sIx 3 0 none = 0 ∧ HT.sIx 3 3 (some 2) = 3) := (by decide); exact h3), fun p hp => ?_⟩
            have s5 := same_upd (o := .tup (cutV [V.int r.1, V.str r.2.1, V.ref po] none (some 2))) hp
            have x5 := Ext.skip (o := .tup (cutV [V.int r.1, V.str r.2.1, V.ref po] none (some 2))) xx.vh hp
            walk_at "go"
            rename_i p2 hp2
            have s6 := same_upd (o := .tup [.int sl, .str n]) hp2
            have x6 := x5.trans (Ext.skip (o := .tup [.int sl, .str n]) x5.vh hp2)
            refine t_ne (d := .tuple [.int r.1, .str r.2.1]) (e := .tuple [.int sl, .str n]) (.tup (s6.sqt (SqT.of upd_same)) (.cons (.int _) (.cons (.str _) .nil))) (.tup (SqT.of upd_same) (.cons (.int _) (.cons (.str _) .nil))) (sh_pair _ (oS r (List.mem_of_getElem? hr))) (sh_pair _ on) ⟨_, rfl, ?_⟩
            rw [eqv_pair]
            by_cases c : r.1 = sl ∧ r.2.1 = n
            · rw [decide_eq_true c]
              exact if_f (b := !true) rfl (hno (by rw [hr]; exact if_neg (fun z => z c)) _ _ x6)
            · rw [decide_eq_false c]
              exact if_t (b := !false) rfl ⟨_, rfl, hy (rwD (snD r)) _ _ _ (by rw [hr]; exact if_pos c) x6 (.tup qw (.cons (.int _) (.cons (.str _) (.cons c3 .nil))))⟩
    · rintro U2 H4 ws xx uD dA dl
      rw [fm_fmap (fun r => if ¬ (r.1 = sl ∧ r.2.1 = n) then some (rwD (snD r)) else none) S _ hzl _ (fun i x h => by rw [h]; rfl), filterMap_uns] at dA
      have e4 := xx.hh _ _ e1
      have uo4 := xx.keepOut X.uo (by rw [e1]; exact fun z => by cases z)
      walk_at "go"
      refine ⟨o, _, dx, _, rfl, e4, T.clExchange, T.nExchange_sent, (by show 7 < 1000; decide), ?_⟩
      rw [xF_ps]
      exact q _ _ (xx.grow.poke uo4) (fun b u e hb => by rw [upd_ne hb]; exact xx.hh _ _ e) ⟨uo4, (xx.grow.poke uo4).vh, ⟨dx, _, _, _, _, _, upd_same, d1.to xx.vv, d2.to xx.vv, d3.to xx.vv, ⟨D, ws, rfl, uD, dA⟩, d5.to xx.vv⟩, X.lg, X.lp, X.ld, by show ((unsR sl n S).map snD).length ≤ 60; rw [List.length_map]; exact Nat.le_trans (List.length_filter_le _ _) hSl⟩
theorem xF_uns (g p d s a : V) (n : Int) (h : V) : (xF g p d s a n h).lookup ("unsend" : Str) = none := by
  unfold xF
  rw [lk_ne (by decide +kernel), lk_ne (by decide +kernel), lk_ne (by decide +kernel), lk_ne (by decide +kernel), lk_ne (by decide +kernel), lk_ne (by decide +kernel), lk_ne (by decide +kernel)]; rfl
def sp_Exchange_send (C : Addr) (K : PySem.W.Frag) : Sp := fun vs H Q _ => ∃ (o : Addr) (m : Xm) (S : List (Int × Str × List Int)) (va vo : V) (sl : Int) (n : Str) (os : List Int) (U : Hp), vs = [.ref o, .int sl, .str n, vo] ∧ XAt C K U H o m va ∧ m.sent = S.map snD ∧ PyData.strOk n = true ∧ (∀ r ∈ S, PyData.strOk r.2.1 = true) ∧
  Dp K U vo (.list (os.map PyData.int)) ∧ os.length < 1000 ∧ S.length < 60 ∧
  ∀ U' H', Grow U H U' H' → (∀ b u, H b = some u → b ≠ o → H' b = some u) → XAt C K U' H' o { m with sent := (unsR sl n S ++ [(sl, n, os)]).map snD } va → Q .non H'
theorem sc_Exchange_send : FnScope ["self", "slot", "name", "octets"] ["self", "slot", "name", "octets"] (defScope s_Exchange_send) := ⟨rfl, rfl, rfl, by decide +kernel, rfl, by decide +kernel, by decide +kernel⟩
theorem ok_Exchange_send (T : Txt K mg A) : FnOk P w K mg base CX0 3 A.fExchange_send A.dExchange_send ["self", "slot", "name", "octets"] (sp_Exchange_send A.CExchange K) := by
  refine T.FExchange_send.ok sc_Exchange_send (fun vs H Q E h => ?_) (fun cdv Ar outer s H vs Q E hr h => ?_)
  · obtain ⟨_, _, _, _, _, _, _, _, _, rfl, _⟩ := h
    rfl
  · obtain ⟨o, m, S, va, vo, sl, n, os, U, rfl, X, hS, on, oS, dvo, hos, hSl, q⟩ := h
    obtain ⟨dx, fg, fp, fd, fs, fh, e1, _⟩ := X.ob
    refine ⟨_, (pss_cons (ps_expr (pe_meth (pv 0) T.clExchange T.mExchange_unsend (ok_Exchange_unsend T) (hr.mono (by decide)) T.bExchange_unsend .nil pass0 (pa_cons (pv 1) (pa_cons (pv 2) pa_nil))))
      (pss_one (ps_fld (pv 0) (pe_op op_cat (pe_fld (pv 0) rfl) (pe_lst (pa_cons (pe_tup (pa_cons (pv 1) (pa_cons (pv 2) (pa_cons (pe_callTy call_list_of (by rfl) T.list (by decide +kernel) (pa_cons (pv 3) pa_nil)) pa_nil)))) pa_nil))) rfl))), ?_⟩
    walk_at "go"
    refine ⟨o, dx, _, rfl, e1, xF_uns _ _ _ _ _ _ _, ?_⟩
    walk_at "go"
    refine ⟨o, m, S, va, sl, n, U, rfl, X, hS, on, oS, fun U1 H1 g1 b1 X1 => ?_⟩
    obtain ⟨dx1, fg1, fp1, fd1, fs1, fh1, e2, d1, d2, d3, ⟨a1, zs1, rfl, ea1, ds1⟩, d5⟩ := X1.ob
    have ea1' := X1.sU _ _ ea1
    have hzl : zs1.length = (unsR sl n S).length := by rw [dpall_len ds1, List.length_map, List.length_map]
    have hul : (unsR sl n S).length ≤ S.length := List.length_filter_le _ _
    obtain ⟨ao, zo, rfl, qo, do_⟩ := dp_list (dvo.to g1.vv)
    have qo' := X1.sU.seq qo
    have hzo : zo.length = os.length := by rw [dpall_len do_, List.length_map]
    walk_at "go"
    refine ⟨o, _, dx1, _, .ref a1, rfl, e2, T.clExchange, T.nExchange_sent, xF_s _ _ _ _ _ _ _, ?_⟩
    walk_at "go"
    intro l hl1
    have x1 : Ext U1 H1 _ _ := Ext.new (o := .lst zo) X1.sU hl1
    have s1 := same_upd (o := .lst zo) (none_of_same X1.sU hl1)
    walk_at "go"
    rename_i pt hpt pl hpl
    have x2 := x1.trans (Ext.new (o := .tup [.int sl, .str n, .ref l]) x1.vh hpt)
    have s2 := same_upd (o := .tup [.int sl, .str n, .ref l]) (none_of_same x1.vh hpt)
    have x3 := x2.trans (Ext.new (o := .lst [.ref pt]) x2.vh hpl)
    have s3 := same_upd (o := .lst [.ref pt]) (none_of_same x2.vh hpl)
    have hp : Dp K _ (.ref pt) (rwD (snD (sl, n, os))) := .tup (SqT.of upd_same) (.cons (.int _) (.cons (.str _) (.cons (.lst (s2.seq (SqL.of upd_same)) ((do_.to s1).to s2)) .nil)))
    refine ⟨a1, pl, _, _, rfl, rfl, x3.hh _ _ ea1', upd_same, ?_, fun r hr => ?_⟩
    · rw [sizeLine_eq]; show zs1.length + 1 ≤ _; omega
    have x4 := x3.trans (Ext.new (o := .lst (zs1 ++ [.ref pt])) x3.vh hr)
    have s4 := same_upd (o := .lst (zs1 ++ [.ref pt])) (none_of_same x3.vh hr)
    have e4 := x4.hh _ _ e2
    have uo4 := x4.keepOut X1.uo (by rw [e2]; exact fun z => by cases z)
    walk_at "go"
    refine ⟨o, _, dx1, _, rfl, e4, T.clExchange, T.nExchange_sent, (by show 7 < 1000; decide), ?_⟩
    rw [xF_ps]
    have bk : ∀ c, H1 c = none → H c = none := fun c hc => by
      cases e : H c with
      | none => rfl
      | some u =>
        by_cases h : c = o
        · rw [h, e2] at hc; cases hc
        · rw [b1 c u e h] at hc; cases hc
    exact q _ _ ((g1.trans x4.grow bk).poke uo4) (fun b u e hb => by rw [upd_ne hb]; exact x4.hh _ _ (b1 b u e hb)) ⟨uo4, (x4.grow.poke uo4).vh, ⟨dx1, _, _, _, _, _, upd_same, d1.to x4.vv, d2.to x4.vv, d3.to x4.vv, ⟨r, _, rfl, upd_same, by rw [List.map_append, List.map_append]; exact dpall_app (ds1.to x4.vv) (.cons ((hp.to s3).to s4) .nil)⟩, d5.to x4.vv⟩, X1.lg, X1.lp, X1.ld, by show ((unsR sl n S ++ [(sl, n, os)]).map snD).length ≤ 60; rw [List.length_map, List.length_append]; show _ + 1 ≤ 60; omega⟩
/-! ### comprehensions whose items are told by a relation of ours -/
section
variable {α : Type} (Rl : Hp → V → α → Prop)
def AllR (U : Hp) : List V → List α → Prop
  | [], [] => True
  | z :: zs, r :: rs => Rl U z r ∧ AllR U zs rs
  | _, _ => False
variable {Rl}
theorem allr_len {U : Hp} : ∀ {zs : List V} {rs : List α}, AllR Rl U zs rs → zs.length = rs.length
  | [], [], _ => rfl
  | _ :: zs, _ :: rs, h => by rw [List.length_cons, List.length_cons, allr_len h.2]
  | [], _ :: _, h => h.elim
  | _ :: _, [], h => h.elim
theorem allr_get {U : Hp} : ∀ {zs : List V} {rs : List α} {i : Nat} {z : V}, AllR Rl U zs rs → zs[i]? = some z → ∃ r, rs[i]? = some r ∧ Rl U z r
  | [], [], i, z, _, e => by cases e
  | z :: zs, r :: rs, 0, _, h, e => by cases e; exact ⟨r, rfl, h.1⟩
  | z :: zs, r :: rs, i + 1, _, h, e => allr_get (zs := zs) (rs := rs) (i := i) h.2 e
  | [], _ :: _, _, _, h, _ => h.elim
  | _ :: _, [], _, _, h, _ => h.elim
theorem allr_app {U : Hp} : ∀ {zs ws : List V} {rs ss : List α}, AllR Rl U zs rs → AllR Rl U ws ss → AllR Rl U (zs ++ ws) (rs ++ ss)
  | [], _, [], _, _, g => g
  | _ :: zs, _, _ :: rs, _, h, g => ⟨h.1, allr_app h.2 g⟩
  | [], _, _ :: _, _, h, _ => h.elim
  | _ :: _, _, [], _, h, _ => h.elim
theorem allr_to (mono : ∀ U U' v a, Same U U' → Rl U v a → Rl U' v a) {U U' : Hp} (s : Same U U') : ∀ {zs : List V} {rs : List α}, AllR Rl U zs rs → AllR Rl U' zs rs
  | [], [], _ => trivial
  | _ :: zs, _ :: rs, h => ⟨mono _ _ _ _ s h.1, allr_to mono s h.2⟩
  | [], _ :: _, h => h.elim
  | _ :: _, [], h => h.elim
variable (Rl) in
structure LcR (V0 H0 : Hp) (D : Addr) (acc : List α) (H : Hp) : Prop where
  ex : ∃ V xs, Ext V0 H0 V H ∧ V D = none ∧ H D = some (.lst xs) ∧ AllR Rl V xs acc
theorem lc_rel (mono : ∀ U U' v a, Same U U' → Rl U v a → Rl U' v a) {J : It} {n : Nat} {G : Hp → Prop} {Y : Nat → Hp → V → Hp → Prop} (wk : Walk J n G Y) {V0 H0 : Hp} {D : Addr} {g : TG} {tt : TT} {te : TE} {vs : List Nat} {σ : St} {Qd : Hp → Prop} (f : Nat → Option α) (σ0 : St) (hσ : wipe σ vs = σ0) (s0 : Same V0 H0) (hD : H0 D = none) (hn : n < 100000)
    (hG : ∀ H, Same H0 H → G H) (hY : ∀ i H x H', Y i H x H' → H' = H)
    (hs : ∀ i x V H, i < n → Ext V0 H0 V H → Y i H x H → ∀ (Qy : VK) (Qn : Hp → Prop), (∀ d y V' H', f i = some d → Ext V H V' H' → Rl V' y d → Qy y H') → (f i = none → ∀ V' H', Ext V H V' H' → Qn H') →
      g x σ0 H fun σ2 H2 => wipe σ2 vs = σ0 ∧ tt σ2 H2 fun b H3 => if b = true then te σ2 H3 Qy else Qn H3)
    (hd : ∀ (U H : Hp) (xs : List V), Ext V0 H0 U H → U D = some (.lst xs) → AllR Rl U xs (fm f n) → Qd H) :
    ∃ W : Nat → Nat → Hp → Prop, (∃ m, W 0 m (upd H0 D (.lst []))) ∧ ∀ i m H, W i m H →
      (J.stop i H ∧ Qd H) ∨ (J.go i H ∧ ∃ Nx : Hp → Prop, (∀ H', Nx H' → ∃ m', m' < m ∧ W (i + 1) m' H') ∧ ∀ x H', J.yld i H x H' → g x (wipe σ vs) H' fun σ2 H2 => wipe σ2 vs = wipe σ vs ∧ tt σ2 H2 fun b H3 =>
        if b = true then te σ2 H3 fun y H4 => ∃ acc, H4 D = some (.lst acc) ∧ acc.length < sizeLine ∧ Nx (upd H4 D (.lst (acc ++ [y]))) else Nx H3) := by
  subst hσ
  refine lc_it wk (fun i H => LcR Rl V0 H0 D (fm f i) H) ⟨V0, [], Ext.skip s0 hD, s0.free hD, upd_same, trivial⟩ (fun i H _ p => ?_) (fun i x H H' hi p y => ?_) (fun H p => ?_)
  · obtain ⟨V, xs, x, _⟩ := p.ex
    exact hG H x.hh
  · obtain ⟨V, xs, x0, hv, hdd, dp⟩ := p.ex
    obtain rfl := hY i H x H' y
    refine hs i x V H' hi x0 y _ _ (fun d y' V' H4 e x2 dy => ?_) (fun e V' H4 x2 => ?_)
    · have hl : xs.length < 100000 := by
        rw [allr_len dp]; exact Nat.lt_of_le_of_lt (fm_len f i) (Nat.lt_trans hi hn)
      have hv' : V' D = none := x2.keepOut hv (by rw [hdd]; exact fun z => by cases z)
      refine ⟨xs, x2.hh _ _ hdd, lt_line hl, V', xs ++ [y'], (x0.trans x2).poke hD hv', hv', upd_same, ?_⟩
      rw [fm_succ, e]
      exact allr_app (allr_to mono x2.vv dp) ⟨dy, trivial⟩
    · have hv' : V' D = none := x2.keepOut hv (by rw [hdd]; exact fun z => by cases z)
      rw [fm_succ, e]
      show LcR Rl V0 H0 D (fm f i ++ []) H4
      rw [List.append_nil]
      exact ⟨V', xs, x0.trans x2, hv', x2.hh _ _ hdd, allr_to mono x2.vv dp⟩
  · obtain ⟨U, xs, x, hv, hdd, dp⟩ := p.ex
    exact hd _ H xs (x.take hD hv hdd) upd_same (allr_to mono (same_upd hv) dp)
end
theorem fm_filter {α : Type} (p : α → Bool) (xs : List α) (n : Nat) (h : n = xs.length) : fm (fun i => (xs[i]?).bind fun r => if p r = true then some r else none) n = xs.filter p := by
  rw [fm_fmap (fun r => if p r = true then some r else none) xs n h _ (fun i x e => by rw [e]; rfl)]
  induction xs generalizing n with
  | nil => rfl
  | cons r t ih =>
    by_cases c : p r = true
    · rw [List.filterMap_cons_some (by rw [if_pos c]), List.filter_cons_of_pos c, ih _ rfl]
    · rw [List.filterMap_cons_none (by rw [if_neg c]), List.filter_cons_of_neg c, ih _ rfl]
/-- something new, written to, is taken into the view -/
theorem Ext.put {V H H' : Hp} {x : Addr} {o : HO} (s : Same V H) (hh : Same H H') (hx : H x = none) (e : H' x = some o) : Ext V H (upd V x o) H' :=
  ⟨same_upd (s.free hx), fun b u q => by
    by_cases hb : b = x
    · subst hb; rw [upd_same] at q; rw [e]; exact q
    · rw [upd_ne hb] at q; exact hh _ _ (s b u q), hh, fun a q => by
    by_cases ha : a = x
    · subst ha; exact Or.inr hx
    · rw [upd_ne ha] at q; exact Or.inl q⟩
/-! ### what is asked -/
def aF (n s c : Int) (o : V) (x y w h : Int) : List (Str × V) := [("number", .int n), ("slot", .int s), ("capture", .int c), ("output", o), ("x", .int x), ("y", .int y), ("width", .int w), ("height", .int h)]
theorem aF_n (n s c : Int) (o : V) (x y w h : Int) : (aF n s c o x y w h).lookup ("number" : Str) = some (.int n) := by
  unfold aF
  rw [List.lookup_cons_self]
theorem aF_s (n s c : Int) (o : V) (x y w h : Int) : (aF n s c o x y w h).lookup ("slot" : Str) = some (.int s) := by
  unfold aF
  rw [lk_ne (by decide +kernel), List.lookup_cons_self]
theorem aF_c (n s c : Int) (o : V) (x y w h : Int) : (aF n s c o x y w h).lookup ("capture" : Str) = some (.int c) := by
  unfold aF
  rw [lk_ne (by decide +kernel), lk_ne (by decide +kernel), List.lookup_cons_self]
theorem aF_o (n s c : Int) (o : V) (x y w h : Int) : (aF n s c o x y w h).lookup ("output" : Str) = some (o) := by
  unfold aF
  rw [lk_ne (by decide +kernel), lk_ne (by decide +kernel), lk_ne (by decide +kernel), List.lookup_cons_self]
theorem aF_x (n s c : Int) (o : V) (x y w h : Int) : (aF n s c o x y w h).lookup ("x" : Str) = some (.int x) := by
  unfold aF
  rw [lk_ne (by decide +kernel), lk_ne (by decide +kernel), lk_ne (by decide +kernel), lk_ne (by decide +kernel), List.lookup_cons_self]
theorem aF_y (n s c : Int) (o : V) (x y w h : Int) : (aF n s c o x y w h).lookup ("y" : Str) = some (.int y) := by
  unfold aF
  rw [lk_ne (by decide +kernel), lk_ne (by decide +kernel), lk_ne (by decide +kernel), lk_ne (by decide +kernel), lk_ne (by decide +kernel), List.lookup_cons_self]
theorem aF_w (n s c : Int) (o : V) (x y w h : Int) : (aF n s c o x y w h).lookup ("width" : Str) = some (.int w) := by
  unfold aF
  rw [lk_ne (by decide +kernel), lk_ne (by decide +kernel), lk_ne (by decide +kernel), lk_ne (by decide +kernel), lk_ne (by decide +kernel), lk_ne (by decide +kernel), List.lookup_cons_self]
theorem aF_h (n s c : Int) (o : V) (x y w h : Int) : (aF n s c o x y w h).lookup ("height" : Str) = some (.int h) := by
  unfold aF
  rw [lk_ne (by decide +kernel), lk_ne (by decide +kernel), lk_ne (by decide +kernel), lk_ne (by decide +kernel), lk_ne (by decide +kernel), lk_ne (by decide +kernel), lk_ne (by decide +kernel), List.lookup_cons_self]
def aF2 (n s c : Int) (o : V) (x y w h : Int) : List (Str × V) := [("number", .int n), ("slot", .int s)]
def aF3 (n s c : Int) (o : V) (x y w h : Int) : List (Str × V) := [("number", .int n), ("slot", .int s), ("capture", .int c)]
def aF4 (n s c : Int) (o : V) (x y w h : Int) : List (Str × V) := [("number", .int n), ("slot", .int s), ("capture", .int c), ("output", o)]
def aF5 (n s c : Int) (o : V) (x y w h : Int) : List (Str × V) := [("number", .int n), ("slot", .int s), ("capture", .int c), ("output", o), ("x", .int x)]
def aF6 (n s c : Int) (o : V) (x y w h : Int) : List (Str × V) := [("number", .int n), ("slot", .int s), ("capture", .int c), ("output", o), ("x", .int x), ("y", .int y)]
def aF7 (n s c : Int) (o : V) (x y w h : Int) : List (Str × V) := [("number", .int n), ("slot", .int s), ("capture", .int c), ("output", o), ("x", .int x), ("y", .int y), ("width", .int w)]
theorem aF_1' (n s c : Int) (o : V) (x y w h : Int) : putF "slot" (.int s) (putF "number" (.int n) []) = aF2 n s c o x y w h := by
  rw [show putF "number" (.int n) [] = [(("number" : Str), V.int n)] from rfl, pk_ne (by decide +kernel)]; rfl
theorem aF_2' (n s c : Int) (o : V) (x y w h : Int) : putF "capture" (.int c) (aF2 n s c o x y w h) = aF3 n s c o x y w h := by
  unfold aF2
  rw [pk_ne (by decide +kernel), pk_ne (by decide +kernel)]; rfl
theorem aF_3' (n s c : Int) (o : V) (x y w h : Int) : putF "output" (o) (aF3 n s c o x y w h) = aF4 n s c o x y w h := by
  unfold aF3
  rw [pk_ne (by decide +kernel), pk_ne (by decide +kernel), pk_ne (by decide +kernel)]; rfl
theorem aF_4' (n s c : Int) (o : V) (x y w h : Int) : putF "x" (.int x) (aF4 n s c o x y w h) = aF5 n s c o x y w h := by
  unfold aF4
  rw [pk_ne (by decide +kernel), pk_ne (by decide +kernel), pk_ne (by decide +kernel), pk_ne (by decide +kernel)]; rfl
theorem aF_5' (n s c : Int) (o : V) (x y w h : Int) : putF "y" (.int y) (aF5 n s c o x y w h) = aF6 n s c o x y w h := by
  unfold aF5
  rw [pk_ne (by decide +kernel), pk_ne (by decide +kernel), pk_ne (by decide +kernel), pk_ne (by decide +kernel), pk_ne (by decide +kernel)]; rfl
theorem aF_6' (n s c : Int) (o : V) (x y w h : Int) : putF "width" (.int w) (aF6 n s c o x y w h) = aF7 n s c o x y w h := by
  unfold aF6
  rw [pk_ne (by decide +kernel), pk_ne (by decide +kernel), pk_ne (by decide +kernel), pk_ne (by decide +kernel), pk_ne (by decide +kernel), pk_ne (by decide +kernel)]; rfl
theorem aF_7' (n s c : Int) (o : V) (x y w h : Int) : putF "height" (.int h) (aF7 n s c o x y w h) = aF n s c o x y w h := by
  unfold aF7
  rw [pk_ne (by decide +kernel), pk_ne (by decide +kernel), pk_ne (by decide +kernel), pk_ne (by decide +kernel), pk_ne (by decide +kernel), pk_ne (by decide +kernel), pk_ne (by decide +kernel)]; rfl
structure Ark where
  n : Int
  s : Int
  c : Int
  o : PyData
  x : Int
  y : Int
  w : Int
  h : Int
def InsA (C : Addr) (K : PySem.W.Frag) (U : Hp) (z : V) (r : Ark) : Prop := ∃ p dx v, z = .ref p ∧ U p = some (.ins C dx (aF r.n r.s r.c v r.x r.y r.w r.h)) ∧ Dp K U v r.o
theorem insA_mono (C : Addr) (K : PySem.W.Frag) (U U' : Hp) (v : V) (r : Ark) (s : Same U U') (h : InsA C K U v r) : InsA C K U' v r := by
  obtain ⟨p, dx, v, e, e1, d⟩ := h
  exact ⟨p, dx, v, e, s _ _ e1, d.to s⟩
def AsAt (C : Addr) (K : PySem.W.Frag) (U : Hp) (v : V) (rs : List Ark) : Prop := ∃ a zs, v = .ref a ∧ U a = some (.lst zs) ∧ AllR (InsA C K) U zs rs
theorem AsAt.to {C : Addr} {K : PySem.W.Frag} {U U' : Hp} {v : V} {rs : List Ark} (h : AsAt C K U v rs) (s : Same U U') : AsAt C K U' v rs := by
  obtain ⟨a, zs, e, e1, d⟩ := h
  exact ⟨a, zs, e, s _ _ e1, allr_to (insA_mono C K) s d⟩
theorem made_same5 {H H1 : Hp} {x dx C : Addr} (nx : H x = Option.none) (nd : H dx = Option.none) (k : ∀ b u, (upd (upd H dx (.own x)) x (.ins C dx [])) b = some u → b ≠ x → H1 b = some u) : Same H H1 := Same.made nx nd k
theorem eqv_ii (a b x y : Int) : PyData.eqv (.tuple [.int a, .int x]) (.tuple [.int b, .int y]) = decide (a = b ∧ x = y) := by
  have e : PyData.eqv (.tuple [.int a, .int x]) (.tuple [.int b, .int y]) = (a == b && (x == y && true)) := rfl
  rw [e, Bool.and_true]
  by_cases h1 : a = b <;> by_cases h2 : x = y <;> simp [h1, h2]
theorem sh_ii (a x : Int) : Sh 1 (.tuple [.int a, .int x]) := sh_tuple (n := 0) fun d hd => by
  simp only [List.mem_cons, List.not_mem_nil, or_false] at hd
  rcases hd with rfl | rfl <;> exact sh_int _
def sp_Asked___init__ (C : Addr) : Sp := fun vs H Q _ => ∃ (ob dx : Addr) (n s c : Int) (o : V) (x y w h : Int), vs = [.ref ob, .int n, .int s, .int c, o, .int x, .int y, .int w, .int h] ∧ H ob = some (.ins C dx []) ∧ ∀ H' : Hp, H' ob = some (.ins C dx (aF n s c o x y w h)) → (∀ b u, H b = some u → b ≠ ob → H' b = some u) → Q .non H'
theorem sc_Asked___init__ : FnScope ["self", "number", "slot", "capture", "output", "x", "y", "width", "height"] ["self", "number", "slot", "capture", "output", "x", "y", "width", "height"] (defScope s_Asked___init__) := ⟨rfl, rfl, rfl, by decide +kernel, rfl, by decide +kernel, by decide +kernel⟩
theorem ok_Asked___init__ (T : Txt K mg A) : FnOk P w K mg base CX0 1 A.fAsked___init__ A.dAsked___init__ ["self", "number", "slot", "capture", "output", "x", "y", "width", "height"] (sp_Asked___init__ A.CAsked) := by
  refine T.FAsked___init__.ok sc_Asked___init__ (fun vs H Q E h => ?_) (fun cdv Ar outer st H vs Q E hr h => ?_)
  · obtain ⟨_, _, _, _, _, _, _, _, _, _, rfl, _⟩ := h
    rfl
  · obtain ⟨ob, dx, n, s, c, o, x, y, wd, ht, rfl, ho, q⟩ := h
    refine ⟨_, (pss_cons (ps_fld (pv 0) (pv 1) rfl)
      (pss_cons (ps_fld (pv 0) (pv 2) rfl)
      (pss_cons (ps_fld (pv 0) (pv 3) rfl)
      (pss_cons (ps_fld (pv 0) (pv 4) rfl)
      (pss_cons (ps_fld (pv 0) (pv 5) rfl)
      (pss_cons (ps_fld (pv 0) (pv 6) rfl)
      (pss_cons (ps_fld (pv 0) (pv 7) rfl)
      (pss_one (ps_fld (pv 0) (pv 8) rfl))))))))), ?_⟩
    refine ⟨_, rfl, _, rfl, ob, _, dx, _, rfl, ho, T.clAsked, T.nAsked_number, (by show 0 < 1000; decide), ?_⟩
    refine ⟨_, rfl, _, rfl, ob, _, dx, _, rfl, upd_same, T.clAsked, T.nAsked_slot, (by show 1 < 1000; decide), ?_⟩
    rw [aF_1' n s c o x y wd ht]
    refine ⟨_, rfl, _, rfl, ob, _, dx, _, rfl, upd_same, T.clAsked, T.nAsked_capture, (by show 2 < 1000; decide), ?_⟩
    rw [aF_2']
    refine ⟨_, rfl, _, rfl, ob, _, dx, _, rfl, upd_same, T.clAsked, T.nAsked_output, (by show 3 < 1000; decide), ?_⟩
    rw [aF_3']
    refine ⟨_, rfl, _, rfl, ob, _, dx, _, rfl, upd_same, T.clAsked, T.nAsked_x, (by show 4 < 1000; decide), ?_⟩
    rw [aF_4']
    refine ⟨_, rfl, _, rfl, ob, _, dx, _, rfl, upd_same, T.clAsked, T.nAsked_y, (by show 5 < 1000; decide), ?_⟩
    rw [aF_5']
    refine ⟨_, rfl, _, rfl, ob, _, dx, _, rfl, upd_same, T.clAsked, T.nAsked_width, (by show 6 < 1000; decide), ?_⟩
    rw [aF_6']
    refine ⟨_, rfl, _, rfl, ob, _, dx, _, rfl, upd_same, T.clAsked, T.nAsked_height, (by show 7 < 1000; decide), ?_⟩
    rw [aF_7']
    exact q _ upd_same fun b u e hb => by simp only [upd_ne hb]; exact e
def sp_Exchange_ask (C CA : Addr) (K : PySem.W.Frag) : Sp := fun vs H Q _ => ∃ (ob : Addr) (m : Xm) (va : V) (rs : List Ark) (s c : Int) (o : V) (d : PyData) (x y w h : Int) (U : Hp), vs = [.ref ob, .int s, .int c, o, .int x, .int y, .int w, .int h] ∧ XAt C K U H ob m va ∧ AsAt CA K U va rs ∧ Dp K U o d ∧ rs.length < 60 ∧
  ∀ U' H' va', Grow U H U' H' → (∀ b u, H b = some u → b ≠ ob → H' b = some u) → XAt C K U' H' ob { m with count := m.count + 1 } va' → AsAt CA K U' va' (rs ++ [⟨m.count + 1, s, c, d, x, y, w, h⟩]) → Q .non H'
theorem sc_Exchange_ask : FnScope ["self", "slot", "capture", "output", "x", "y", "width", "height"] ["self", "slot", "capture", "output", "x", "y", "width", "height"] (defScope s_Exchange_ask) := ⟨rfl, rfl, rfl, by decide +kernel, rfl, by decide +kernel, by decide +kernel⟩
theorem ok_Exchange_ask (T : Txt K mg A) : FnOk P w K mg base CX0 3 A.fExchange_ask A.dExchange_ask ["self", "slot", "capture", "output", "x", "y", "width", "height"] (sp_Exchange_ask A.CExchange A.CAsked K) := by
  refine T.FExchange_ask.ok sc_Exchange_ask (fun vs H Q E h => ?_) (fun cdv Ar outer st H vs Q E hr h => ?_)
  · obtain ⟨_, _, _, _, _, _, _, _, _, _, _, _, _, rfl, _⟩ := h
    rfl
  · obtain ⟨ob, m, va, rs, s, c, o, d, x, y, wd, ht, U, rfl, X, ⟨aa, za, rfl, ea, da⟩, dvo, hrs, q⟩ := h
    obtain ⟨dx, fg, fp, fd, fs, fh, e1, d1, d2, d3, d4, d5⟩ := X.ob
    refine ⟨_, (pss_cons (ps_fldaug (pv 0) pe_int in_add)
      (pss_one (ps_fld (pv 0) (pe_op op_cat (pe_fld (pv 0) rfl) (pe_lst (pa_cons (pe_make T.MAsked (ok_Asked___init__ T) (hr.mono (by decide)) rfl T.gAsked T.bAsked___init__ .nil pass0 (pa_cons (pe_fld (pv 0) rfl) (pa_cons (pv 1) (pa_cons (pv 2) (pa_cons (pv 3) (pa_cons (pv 4) (pa_cons (pv 5) (pa_cons (pv 6) (pa_cons (pv 7) pa_nil))))))))) pa_nil))) rfl))), ?_⟩
    refine ⟨_, rfl, ob, _, dx, _, _, rfl, e1, T.clExchange, T.nExchange_count, xF_n _ _ _ _ _ _ _, _, _, rfl, rfl, dx, _, e1, (by show 7 < 1000; decide), ?_⟩
    rw [xF_pn]
    have g1 := (Grow.refl X.sU).poke (o := .ins A.CExchange dx (xF fg fp fd fs (.ref aa) (m.count + 1) fh)) X.uo
    have e2 : (upd H ob (.ins A.CExchange dx (xF fg fp fd fs (.ref aa) (m.count + 1) fh))) ob = _ := upd_same
    have b2 : ∀ b u, H b = some u → b ≠ ob → (upd H ob (.ins A.CExchange dx (xF fg fp fd fs (.ref aa) (m.count + 1) fh))) b = some u := fun b u e hb => by rw [upd_ne hb]; exact e
    generalize upd H ob (.ins A.CExchange dx (xF fg fp fd fs (.ref aa) (m.count + 1) fh)) = H1 at g1 e2 b2 ⊢
    refine ⟨_, rfl, ob, _, dx, _, _, rfl, e2, T.clExchange, T.nExchange_asked, xF_a _ _ _ _ _ _ _, ?_⟩
    refine ⟨_, rfl, ob, _, dx, _, _, rfl, e2, T.clExchange, T.nExchange_count, xF_n _ _ _ _ _ _ _, _, rfl, _, rfl, _, rfl, _, rfl, _, rfl, _, rfl, _, rfl, ?_⟩
    intro p dp np ndp nep
    refine ⟨p, dp, _, _, _, _, _, _, _, _, rfl, upd_same, fun H3 h3 b3 => ⟨rfl, ?_⟩⟩
    have s3 : Same H1 H3 := made_same5 np ndp b3
    have np1 : H1 p = none := np
    have x3 : Ext U H1 (upd U p (.ins A.CAsked dp (aF (m.count + 1) s c o x y wd ht))) H3 := Ext.put g1.vh s3 np1 h3
    refine ⟨len_line (by show 1 ≤ 100000; decide), fun pl hpl => ?_⟩
    have x4 := x3.trans (Ext.new (o := .lst [.ref p]) x3.vh hpl)
    have hza : za.length = rs.length := allr_len da
    refine ⟨aa, pl, za, [.ref p], rfl, rfl, x4.hh _ _ (g1.vh _ _ ea), upd_same, ?_, fun r hr => ?_⟩
    · rw [sizeLine_eq]; show za.length + 1 ≤ _; omega
    have x5 := x4.trans (Ext.new (o := .lst (za ++ [.ref p])) x4.vh hr)
    have e5 := x5.hh _ _ e2
    have uo5 := x5.keepOut X.uo (by rw [e2]; exact fun z => by cases z)
    refine ⟨_, rfl, ob, _, dx, _, rfl, e5, T.clExchange, T.nExchange_asked, (by show 7 < 1000; decide), ?_⟩
    rw [xF_pa]
    have bk : ∀ c, H1 c = none → H c = none := fun c hc => by
      cases e : H c with
      | none => rfl
      | some u =>
        by_cases h : c = ob
        · rw [h, e2] at hc; cases hc
        · rw [b2 c u e h] at hc; cases hc
    have g5 := (g1.trans x5.grow bk).poke (o := .ins A.CExchange dx (xF fg fp fd fs (.ref r) (m.count + 1) fh)) uo5
    have sUp : Same (upd U p (.ins A.CAsked dp (aF (m.count + 1) s c o x y wd ht))) (upd (upd (upd U p (.ins A.CAsked dp (aF (m.count + 1) s c o x y wd ht))) pl (.lst [.ref p])) r (.lst (za ++ [.ref p]))) := (same_upd (none_of_same x3.vh hpl)).trans (same_upd (none_of_same x4.vh hr))
    refine q _ _ _ g5 (fun b u e hb => by rw [upd_ne hb]; exact x5.hh _ _ (b2 b u e hb)) ⟨uo5, g5.vh, ⟨dx, _, _, _, _, _, upd_same, d1.to x5.vv, d2.to x5.vv, d3.to x5.vv, d4.to x5.vv, d5.to x5.vv⟩, X.lg, X.lp, X.ld, X.ls⟩ ⟨r, _, rfl, upd_same, ?_⟩
    exact allr_app (allr_to (insA_mono _ _) x5.vv da) ⟨⟨p, dp, o, rfl, sUp _ _ upd_same, dvo.to x5.vv⟩, trivial⟩
def sp_Exchange_withdraw (C CA : Addr) (K : PySem.W.Frag) : Sp := fun vs H Q _ => ∃ (ob : Addr) (m : Xm) (va : V) (rs : List Ark) (s c : Int) (U : Hp), vs = [.ref ob, .int s, .int c] ∧ XAt C K U H ob m va ∧ AsAt CA K U va rs ∧ rs.length ≤ 60 ∧
  ∀ U' H' va', Grow U H U' H' → (∀ b u, H b = some u → b ≠ ob → H' b = some u) → XAt C K U' H' ob m va' → AsAt CA K U' va' (rs.filter fun r => !decide (r.s = s ∧ r.c = c)) → Q .non H'
theorem sc_Exchange_withdraw : FnScope ["self", "slot", "capture", "asked"] ["self", "slot", "capture"] (defScope s_Exchange_withdraw) := ⟨rfl, rfl, rfl, by decide +kernel, rfl, by decide +kernel, by decide +kernel⟩
theorem ok_Exchange_withdraw (T : Txt K mg A) : FnOk P w K mg base CX0 1 A.fExchange_withdraw A.dExchange_withdraw ["self", "slot", "capture"] (sp_Exchange_withdraw A.CExchange A.CAsked K) := by
  refine T.FExchange_withdraw.ok sc_Exchange_withdraw (fun vs H Q E h => ?_) (fun cdv Ar outer st H vs Q E hr h => ?_)
  · obtain ⟨_, _, _, _, _, _, _, rfl, _⟩ := h
    rfl
  · obtain ⟨ob, m, va, rs, s, c, U, rfl, X, ⟨aa, za, rfl, ea, da⟩, hrs, q⟩ := h
    obtain ⟨dx, fg, fp, fd, fs, fh, e1, d1, d2, d3, d4, d5⟩ := X.ob
    have hza : za.length = rs.length := allr_len da
    have ea' := X.sU _ _ ea
    refine ⟨_, (pss_one (ps_fld (pv 0) (pe_lc (own := [("asked", 3)]) (g := (gName 3)) (tt := tTest (tOp (rNeD K) (tTup (tCons (tFld K (tVar 3) "slot") (tCons (tFld K (tVar 3) "capture") tNil))) (tTup (tCons (tVar 1) (tCons (tVar 2) tNil))))) rfl sc_Exchange_withdraw.nd (pi_list (pe_fld (pv 0) rfl)) (blkOk_by (own := [("asked", 3)]) (N := ["self", "slot", "capture", "asked"]) (sc := defScope s_Exchange_withdraw) (by decide +kernel)) (fun _ _ _ _ _ => (pg_name (i := 3) sc_Exchange_withdraw.nd rfl (Or.inl rfl))) (fun _ _ _ _ _ => by exact (pts_one (pt_cmpR (r := rNeD K) (op_neD hr.units) (pe_tup (pa_cons (pe_fld (pv 3) rfl) (pa_cons (pe_fld (pv 3) rfl) pa_nil))) (pe_tup (pa_cons (pv 1) (pa_cons (pv 2) pa_nil))) (nomark _)))) (fun _ _ _ _ _ => by exact (pv 3))) rfl)), ?_⟩
    refine ⟨_, rfl, ob, _, dx, _, _, rfl, e1, T.clExchange, T.nExchange_asked, xF_a _ _ _ _ _ _ _, ?_⟩
    refine ⟨aa, rfl, ⟨_, SqL.of ea'⟩, fun D hD => ?_⟩
    refine lc_rel (Rl := InsA A.CAsked K) (insA_mono _ _) (walk_list (K := K) (a := aa) (xs := za)) (V0 := U) (H0 := H) (fun i => (rs[i]?).bind fun r => if (!decide (r.s = s ∧ r.c = c)) = true then some r else none) _ rfl X.sU hD (by omega) (fun H' s => s.seq (SqL.of ea')) (fun i x H H' y => y.1) ?_ ?_
    · rintro k z U2 H4 hn' xx ⟨_, hz⟩ Qy Qn hy hno
      obtain ⟨r, hr, hi⟩ := allr_get da hz
      obtain ⟨p, dp, vo, rfl, ep, dvo⟩ := insA_mono _ _ _ _ _ _ xx.vv hi
      have ep' := xx.vh _ _ ep
      refine ⟨rfl, _, rfl, p, _, dp, _, _, rfl, ep', T.clAsked, T.nAsked_slot, aF_s _ _ _ _ _ _ _ _, _, rfl, p, _, dp, _, _, rfl, ep', T.clAsked, T.nAsked_capture, aF_c _ _ _ _ _ _ _ _, len_line (by show 2 ≤ 100000; decide), fun p1 h1 => ?_⟩
      have x5 := Ext.skip (o := .tup [.int r.s, .int r.c]) xx.vh h1
      refine ⟨_, rfl, _, rfl, len_line (by show 2 ≤ 100000; decide), fun p2 h2 => ?_⟩
      have x6 := x5.trans (Ext.skip (o := .tup [.int s, .int c]) x5.vh h2)
      have s6 := same_upd (o := .tup [.int s, .int c]) h2
      refine ⟨_, _, .tup (s6.sqt (SqT.of upd_same)) (.cons (.int _) (.cons (.int _) .nil)), .tup (SqT.of upd_same) (.cons (.int _) (.cons (.int _) .nil)), (sh_ii _ _).shaped, (sh_ii _ _).shaped, _, rfl, ?_⟩
      rw [eqv_ii]
      by_cases cc : r.s = s ∧ r.c = c
      · rw [decide_eq_true cc]
        exact if_f (b := !true) rfl (hno (by rw [hr]; show (if (!decide (r.s = s ∧ r.c = c)) = true then some r else none) = none; rw [decide_eq_true cc]; rfl) _ _ x6)
      · rw [decide_eq_false cc]
        exact if_t (b := !false) rfl ⟨_, rfl, hy r _ _ _ (by rw [hr]; show (if (!decide (r.s = s ∧ r.c = c)) = true then some r else none) = some r; rw [decide_eq_false cc]; rfl) x6 ⟨p, dp, vo, rfl, x6.vv _ _ ep, dvo.to x6.vv⟩⟩
    · rintro U2 H4 ws xx uD dA
      rw [fm_filter (fun r : Ark => !decide (r.s = s ∧ r.c = c)) rs _ hza] at dA
      have e4 := xx.hh _ _ e1
      have uo4 := xx.keepOut X.uo (by rw [e1]; exact fun z => by cases z)
      refine ⟨_, rfl, ob, _, dx, _, rfl, e4, T.clExchange, T.nExchange_asked, (by show 7 < 1000; decide), ?_⟩
      rw [xF_pa]
      have g4 := xx.grow.poke (o := .ins A.CExchange dx (xF fg fp fd fs (.ref D) m.count fh)) uo4
      exact q _ _ _ g4 (fun b u e hb => by rw [upd_ne hb]; exact xx.hh _ _ e) ⟨uo4, g4.vh, ⟨dx, _, _, _, _, _, upd_same, d1.to xx.vv, d2.to xx.vv, d3.to xx.vv, d4.to xx.vv, d5.to xx.vv⟩, X.lg, X.lp, X.ld, X.ls⟩ ⟨D, ws, rfl, uD, dA⟩
/-! ### a program ends; the exchange at its beginning -/
def hovD : Option (Int × Int) → PyData
  | none => .none
  | some p => .tuple [.int p.1, .int p.2]
def endH (s : Int) : Option (Int × Int) → Option (Int × Int)
  | none => none
  | some p => if p.1 = s then none else some p
def sp_Exchange_ended (C CA : Addr) (K : PySem.W.Frag) : Sp := fun vs H Q _ => ∃ (ob : Addr) (m : Xm) (va : V) (rs : List Ark) (s : Int) (hv : Option (Int × Int)) (U : Hp), vs = [.ref ob, .int s] ∧ XAt C K U H ob m va ∧ AsAt CA K U va rs ∧ rs.length ≤ 60 ∧ m.hov = hovD hv ∧
  ∀ U' H' va', Grow U H U' H' → (∀ b u, H b = some u → b ≠ ob → H' b = some u) → XAt C K U' H' ob { m with drags := othR s m.drags, sent := othR s m.sent, hov := hovD (endH s hv) } va' → AsAt CA K U' va' (rs.filter fun r => !decide (r.s = s)) → Q .non H'
theorem sc_Exchange_ended : FnScope ["self", "slot", "asked"] ["self", "slot"] (defScope s_Exchange_ended) := ⟨rfl, rfl, rfl, by decide +kernel, rfl, by decide +kernel, by decide +kernel⟩
theorem ok_Exchange_ended (T : Txt K mg A) : FnOk P w K mg base CX0 2 A.fExchange_ended A.dExchange_ended ["self", "slot"] (sp_Exchange_ended A.CExchange A.CAsked K) := by
  refine T.FExchange_ended.ok sc_Exchange_ended (fun vs H Q E h => ?_) (fun cdv Ar outer st H vs Q E hr h => ?_)
  · obtain ⟨_, _, _, _, _, _, _, rfl, _⟩ := h
    rfl
  · obtain ⟨ob, m, va, rs, s, hv, U, rfl, X, ⟨aa, za, rfl, ea, da⟩, hrs, hhv, q⟩ := h
    obtain ⟨dx, fg, fp, fd, fs, fh, e1, d1, d2, d3, d4, d5⟩ := X.ob
    refine ⟨_, (pss_cons (ps_fld (pv 0) (pe_call (ok__of_others T) (hr.mono (by decide)) rfl T.g_of_others T.k_of_others T.b_of_others .nil pass0 (pa_cons (pe_fld (pv 0) rfl) (pa_cons (pv 1) pa_nil))) rfl)
      (pss_cons (ps_fld (pv 0) (pe_call (ok__of_others T) (hr.mono (by decide)) rfl T.g_of_others T.k_of_others T.b_of_others .nil pass0 (pa_cons (pe_fld (pv 0) rfl) (pa_cons (pv 1) pa_nil))) rfl)
      (pss_cons (ps_fld (pv 0) (pe_lc (own := [("asked", 2)]) (g := (gName 2)) (tt := tTest (tOp rNe (tFld K (tVar 2) "slot") (tVar 1))) rfl sc_Exchange_ended.nd (pi_list (pe_fld (pv 0) rfl)) (blkOk_by (own := [("asked", 2)]) (N := ["self", "slot", "asked"]) (sc := defScope s_Exchange_ended) (by decide +kernel)) (fun _ _ _ _ _ => (pg_name (i := 2) sc_Exchange_ended.nd rfl (Or.inl rfl))) (fun _ _ _ _ _ => by exact (pts_one (pt_cmpR op_ne (pe_fld (pv 2) rfl) (pv 1) (nomark _)))) (fun _ _ _ _ _ => by exact (pv 2))) rfl)
      (pss_one (ps_if (PW.pt (pw_and (pt_cmpR op_notN (pe_fld (pv 0) rfl) pe_non (nomark _)) (pw_and1 (pt_cmpR op_eq (pe_ix (r := rIxT K) ix_tup (pe_fld (pv 0) rfl) pe_int (fun _ _ => rfl)) (pv 1) (nomark _)))))
      (pss_one (ps_fld (pv 0) pe_non rfl))
      pss_nil))))), ?_⟩
    have ld := X.ld
    have ls := X.ls
    walk_at "go"
    refine ⟨ob, _, dx, _, fd, rfl, e1, T.clExchange, T.nExchange_drags, xF_d _ _ _ _ _ _ _, ?_⟩
    walk_at "go"
    refine ⟨fd, m.drags, s, U, rfl, d3.dp, X.sU, by omega, fun vd U1 H1 x1 l1 => ?_⟩
    have e2 := x1.hh _ _ e1
    have uo1 := x1.keepOut X.uo (by rw [e1]; exact fun z => by cases z)
    walk_at "go"
    refine ⟨ob, _, dx, _, rfl, e2, T.clExchange, T.nExchange_drags, (by show 7 < 1000; decide), ?_⟩
    rw [xF_pd]
    have g1 := x1.grow.poke (o := .ins A.CExchange dx (xF fg fp vd fs (.ref aa) m.count fh)) uo1
    walk_at "go"
    refine ⟨ob, _, dx, _, fs, rfl, upd_same, T.clExchange, T.nExchange_sent, xF_s _ _ _ _ _ _ _, ?_⟩
    walk_at "go"
    refine ⟨fs, m.sent, s, U1, rfl, (d4.to x1.vv).dp, g1.vh, by omega, fun vp U2 H2 x2 l2 => ?_⟩
    have e3 := x2.hh _ _ upd_same
    have uo2 := x2.keepOut uo1 (by rw [upd_same]; exact fun z => by cases z)
    walk_at "go"
    refine ⟨ob, _, dx, _, rfl, e3, T.clExchange, T.nExchange_sent, (by show 7 < 1000; decide), ?_⟩
    rw [xF_ps]
    have g2 := (g1.trans x2.grow fun a e => x1.hh.free (none_poke (by rw [e2]; exact fun z => by cases z) a e)).poke (o := .ins A.CExchange dx (xF fg fp vd vp (.ref aa) m.count fh)) uo2
    have b2 : ∀ b u, H b = some u → b ≠ ob → (upd H2 ob (.ins A.CExchange dx (xF fg fp vd vp (.ref aa) m.count fh))) b = some u := fun b u e hb => by rw [upd_ne hb]; exact x2.hh _ _ (by rw [upd_ne hb]; exact x1.hh _ _ e)
    have e4 : (upd H2 ob (.ins A.CExchange dx (xF fg fp vd vp (.ref aa) m.count fh))) ob = _ := upd_same
    have vv := x1.vv.trans x2.vv
    generalize upd H2 ob (.ins A.CExchange dx (xF fg fp vd vp (.ref aa) m.count fh)) = H3 at g2 b2 e4 ⊢
    have bk : ∀ c, H3 c = none → H c = none := fun c hc => by
      cases e : H c with
      | none => rfl
      | some u =>
        by_cases h : c = ob
        · rw [h, e4] at hc; cases hc
        · rw [b2 c u e h] at hc; cases hc
    have da2 : AllR (InsA A.CAsked K) U2 za rs := allr_to (insA_mono _ _) vv da
    have ea2 := g2.vh _ _ (vv _ _ ea)
    have hza : za.length = rs.length := allr_len da
    refine ⟨_, rfl, ob, _, dx, _, _, rfl, e4, T.clExchange, T.nExchange_asked, xF_a _ _ _ _ _ _ _, ?_⟩
    refine ⟨aa, rfl, ⟨_, SqL.of ea2⟩, fun D hD => ?_⟩
    refine lc_rel (Rl := InsA A.CAsked K) (insA_mono _ _) (walk_list (K := K) (a := aa) (xs := za)) (V0 := U2) (H0 := H3) (fun i => (rs[i]?).bind fun r => if (!decide (r.s = s)) = true then some r else none) _ rfl g2.vh hD (by omega) (fun H' s => s.seq (SqL.of ea2)) (fun i x H H' y => y.1) ?_ ?_
    · rintro k z U5 H5 hn' xx ⟨_, hz⟩ Qy Qn hy hno
      obtain ⟨r, hr, hi⟩ := allr_get da2 hz
      obtain ⟨p, dp, vo, rfl, ep, dvo⟩ := insA_mono _ _ _ _ _ _ xx.vv hi
      have ep' := xx.vh _ _ ep
      refine ⟨rfl, _, rfl, p, _, dp, _, _, rfl, ep', T.clAsked, T.nAsked_slot, aF_s _ _ _ _ _ _ _ _, _, rfl, rfl, _, rfl, ?_⟩
      rw [dec_int]
      by_cases cc : r.s = s
      · rw [show (r.s == s) = true from beq_iff_eq.mpr cc]
        exact if_f (b := !true) rfl (hno (by rw [hr]; show (if (!decide (r.s = s)) = true then some r else none) = none; rw [decide_eq_true cc]; rfl) _ _ (Ext.refl xx.vh))
      · rw [show (r.s == s) = false from beq_eq_false_iff_ne.mpr cc]
        exact if_t (b := !false) rfl ⟨_, rfl, hy r _ _ _ (by rw [hr]; show (if (!decide (r.s = s)) = true then some r else none) = some r; rw [decide_eq_false cc]; rfl) (Ext.refl xx.vh) ⟨p, dp, vo, rfl, ep, dvo⟩⟩
    · rintro U6 H6 ws xx uD dA
      rw [fm_filter (fun r : Ark => !decide (r.s = s)) rs _ hza] at dA
      have e6 := xx.hh _ _ e4
      have uo6 := xx.keepOut uo2 (by rw [e4]; exact fun z => by cases z)
      refine ⟨_, rfl, ob, _, dx, _, rfl, e6, T.clExchange, T.nExchange_asked, (by show 7 < 1000; decide), ?_⟩
      rw [xF_pa]
      have g6 := (g2.trans xx.grow bk).poke (o := .ins A.CExchange dx (xF fg fp vd vp (.ref D) m.count fh)) uo6
      have b6 : ∀ b u, H b = some u → b ≠ ob → (upd H6 ob (.ins A.CExchange dx (xF fg fp vd vp (.ref D) m.count fh))) b = some u := fun b u e hb => by rw [upd_ne hb]; exact xx.hh _ _ (b2 b u e hb)
      have e7 : (upd H6 ob (.ins A.CExchange dx (xF fg fp vd vp (.ref D) m.count fh))) ob = _ := upd_same
      generalize upd H6 ob (.ins A.CExchange dx (xF fg fp vd vp (.ref D) m.count fh)) = H7 at g6 b6 e7 ⊢
      have v6 := vv.trans xx.vv
      have v2 := x2.vv.trans xx.vv
      have lo1 : (othR s m.drags).length ≤ m.drags.length := List.length_filter_le _ _
      have lo2 : (othR s m.sent).length ≤ m.sent.length := List.length_filter_le _ _
      have Xk : ∀ (vh : V) (H8 : Hp), Grow U H U6 H8 → (∀ b u, H b = some u → b ≠ ob → H8 b = some u) → Dp K U6 vh (hovD (endH s hv)) → H8 ob = some (.ins A.CExchange dx (xF fg fp vd vp (.ref D) m.count vh)) → Q .non H8 := fun vh H8 g8 b8 dh eh =>
        q _ _ _ g8 b8 ⟨uo6, g8.vh, ⟨dx, _, _, _, _, _, eh, d1.to v6, d2.to v6, l1.to v2, l2.to xx.vv, dh⟩, X.lg, X.lp, Nat.le_trans lo1 ld, Nat.le_trans lo2 ls⟩ ⟨D, ws, rfl, uD, dA⟩
      rw [hhv] at d5
      refine ⟨_, rfl, ob, _, dx, _, _, rfl, e7, T.clExchange, T.nExchange_hovered, xF_h _ _ _ _ _ _ _, ?_⟩
      cases hv with
      | none =>
        cases d5
        exact ⟨rfl, _, rfl, if_f (b := !decide (V.non = V.non)) (by rw [decide_eq_true rfl]; rfl) (Xk .non H7 g6 b6 .non e7)⟩
      | some pr =>
        obtain ⟨ah, xs, rfl, qh, dh⟩ := dp_tuple d5
        cases dh with | cons c1 dh => cases dh with | cons c2 dh =>
        cases dh; cases c1; cases c2
        have qh7 := g6.vh.sqt (v6.sqt qh)
        refine ⟨rfl, _, rfl, if_t (b := !decide (V.ref ah = V.non)) (by rw [decide_eq_false (fun z => by cases z)]; rfl) ?_⟩
        refine ⟨_, rfl, ob, _, dx, _, _, rfl, e7, T.clExchange, T.nExchange_hovered, xF_h _ _ _ _ _ _ _, ah, _, _, _, rfl, rfl, qh7, atI_nat (j := 0) rfl, _, rfl, rfl, _, rfl, iteEq (fun h => ?_) (fun h => ?_)⟩
        · refine ⟨_, rfl, ob, _, dx, _, rfl, e7, T.clExchange, T.nExchange_hovered, (by show 7 < 1000; decide), ?_⟩
          rw [xF_ph]
          refine Xk .non _ (g6.poke uo6) (fun b u e hb => by rw [upd_ne hb]; exact b6 b u e hb) ?_ upd_same
          show Dp K U6 .non (hovD (if pr.1 = s then none else some pr))
          rw [if_pos h]; exact .non
        · refine Xk (.ref ah) H7 g6 b6 ?_ e7
          show Dp K U6 (.ref ah) (hovD (if pr.1 = s then none else some pr))
          rw [if_neg h]; exact (Dp.tup qh (.cons (.int _) (.cons (.int _) .nil)) : Dp K U (.ref ah) (hovD (some pr))).to v6
theorem pk_nil {f : Str} {v : V} : putF f v [] = [(f, v)] := rfl
theorem xF_new (g p d s a : V) : putF "hovered" .non (putF "count" (.int 0) (putF "asked" a (putF "sent" s (putF "drags" d (putF "primary" p (putF "gifts" g [])))))) = xF g p d s a 0 .non := by
  repeat (first | rw [pk_nil] | rw [pk_ne (by decide +kernel)])
  rfl
def xm0 : Xm := ⟨[], [], [], [], 0, .none⟩
theorem lput (f : Str) (y : V) (fs : List (Str × V)) (n : Nat) (h : fs.length ≤ n) : (putF f y fs).length ≤ n + 1 := Nat.le_trans (length_putF f y fs) (by omega)
theorem init_step {H Hk : Hp} {ob dx C p : Addr} {fs fs' : List (Str × V)} {L : List Addr} (b : ∀ b u, H b = some u → b ≠ ob → Hk b = some u) (e : Hk ob = some (.ins C dx fs)) (l : ∀ q ∈ L, Hk q = some (.lst []) ∧ H q = none) (n : Hk p = none) :
    (∀ b u, H b = some u → b ≠ ob → (upd (upd Hk p (.lst [])) ob (.ins C dx fs')) b = some u) ∧ (upd (upd Hk p (.lst [])) ob (.ins C dx fs')) ob = some (.ins C dx fs') ∧ ∀ q ∈ p :: L, (upd (upd Hk p (.lst [])) ob (.ins C dx fs')) q = some (.lst []) ∧ H q = none := by
  have hp : p ≠ ob := fun z => by rw [z, e] at n; cases n
  refine ⟨fun c u h hc => ?_, upd_same, fun q hq => ?_⟩
  · rw [upd_ne hc, upd_ne (ne_of_none (b c u h hc) n)]; exact b c u h hc
  · rcases List.mem_cons.mp hq with rfl | hq
    · refine ⟨by rw [upd_ne hp, upd_same], ?_⟩
      cases h : H q with
      | none => rfl
      | some u => rw [b q u h hp] at n; cases n
    · obtain ⟨l1, l2⟩ := l q hq
      have q1 : q ≠ ob := fun z => by rw [z, e] at l1; cases l1
      exact ⟨by rw [upd_ne q1, upd_ne (ne_of_none l1 n)]; exact l1, l2⟩
def sp_Exchange___init__ (C CA : Addr) (K : PySem.W.Frag) : Sp := fun vs H Q _ => ∃ (ob dx : Addr), vs = [.ref ob] ∧ H ob = some (.ins C dx []) ∧
  ∀ H' U' va, (∀ b u, H b = some u → b ≠ ob → H' b = some u) → (∀ b, U' b ≠ none → H b = none) → XAt C K U' H' ob xm0 va → AsAt CA K U' va [] → Q .non H'
theorem sc_Exchange___init__ : FnScope ["self"] ["self"] (defScope s_Exchange___init__) := ⟨rfl, rfl, rfl, by decide +kernel, rfl, by decide +kernel, by decide +kernel⟩
theorem ok_Exchange___init__ (T : Txt K mg A) : FnOk P w K mg base CX0 1 A.fExchange___init__ A.dExchange___init__ ["self"] (sp_Exchange___init__ A.CExchange A.CAsked K) := by
  refine T.FExchange___init__.ok sc_Exchange___init__ (fun vs H Q E h => ?_) (fun cdv Ar outer st H vs Q E hr h => ?_)
  · obtain ⟨_, _, rfl, _⟩ := h
    rfl
  · obtain ⟨ob, dx, rfl, ho, q⟩ := h
    refine ⟨_, (pss_cons (ps_fld (pv 0) (pe_lst pa_nil) rfl)
      (pss_cons (ps_fld (pv 0) (pe_lst pa_nil) rfl)
      (pss_cons (ps_fld (pv 0) (pe_lst pa_nil) rfl)
      (pss_cons (ps_fld (pv 0) (pe_lst pa_nil) rfl)
      (pss_cons (ps_fld (pv 0) (pe_lst pa_nil) rfl)
      (pss_cons (ps_fld (pv 0) pe_int rfl)
      (pss_one (ps_fld (pv 0) pe_non rfl)))))))), ?_⟩
    refine ⟨len_line (by show 0 ≤ 100000; decide), fun p1 n1 => ?_⟩
    have st1 := init_step (H := H) (L := []) (fs' := putF "gifts" (.ref p1) []) (fun b u h _ => h) ho (fun q hq => (by cases hq)) n1
    have e1 := (same_upd (o := .lst []) n1) _ _ ho
    refine ⟨_, rfl, ob, _, dx, _, rfl, e1, T.clExchange, T.nExchange_gifts, (by show 0 < 1000; decide), ?_⟩
    generalize (upd (upd H p1 (.lst [])) ob (.ins A.CExchange dx (putF "gifts" (.ref p1) []))) = K1 at st1 ⊢
    refine ⟨len_line (by show 0 ≤ 100000; decide), fun p2 n2 => ?_⟩
    have st2 := init_step (fs' := putF "primary" (.ref p2) (putF "gifts" (.ref p1) [])) st1.1 st1.2.1 st1.2.2 n2
    have e2 := (same_upd (o := .lst []) n2) _ _ st1.2.1
    refine ⟨_, rfl, ob, _, dx, _, rfl, e2, T.clExchange, T.nExchange_primary, Nat.lt_of_le_of_lt (m := 1) (lput _ _ _ 0 (Nat.le_refl _)) (by decide), ?_⟩
    generalize (upd (upd K1 p2 (.lst [])) ob (.ins A.CExchange dx (putF "primary" (.ref p2) (putF "gifts" (.ref p1) [])))) = K2 at st2 ⊢
    refine ⟨len_line (by show 0 ≤ 100000; decide), fun p3 n3 => ?_⟩
    have st3 := init_step (fs' := putF "drags" (.ref p3) (putF "primary" (.ref p2) (putF "gifts" (.ref p1) []))) st2.1 st2.2.1 st2.2.2 n3
    have e3 := (same_upd (o := .lst []) n3) _ _ st2.2.1
    refine ⟨_, rfl, ob, _, dx, _, rfl, e3, T.clExchange, T.nExchange_drags, Nat.lt_of_le_of_lt (m := 2) (lput _ _ _ 1 (lput _ _ _ 0 (Nat.le_refl _))) (by decide), ?_⟩
    generalize (upd (upd K2 p3 (.lst [])) ob (.ins A.CExchange dx (putF "drags" (.ref p3) (putF "primary" (.ref p2) (putF "gifts" (.ref p1) []))))) = K3 at st3 ⊢
    refine ⟨len_line (by show 0 ≤ 100000; decide), fun p4 n4 => ?_⟩
    have st4 := init_step (fs' := putF "sent" (.ref p4) (putF "drags" (.ref p3) (putF "primary" (.ref p2) (putF "gifts" (.ref p1) [])))) st3.1 st3.2.1 st3.2.2 n4
    have e4 := (same_upd (o := .lst []) n4) _ _ st3.2.1
    refine ⟨_, rfl, ob, _, dx, _, rfl, e4, T.clExchange, T.nExchange_sent, Nat.lt_of_le_of_lt (m := 3) (lput _ _ _ 2 (lput _ _ _ 1 (lput _ _ _ 0 (Nat.le_refl _)))) (by decide), ?_⟩
    generalize (upd (upd K3 p4 (.lst [])) ob (.ins A.CExchange dx (putF "sent" (.ref p4) (putF "drags" (.ref p3) (putF "primary" (.ref p2) (putF "gifts" (.ref p1) [])))))) = K4 at st4 ⊢
    refine ⟨len_line (by show 0 ≤ 100000; decide), fun p5 n5 => ?_⟩
    have st5 := init_step (fs' := putF "asked" (.ref p5) (putF "sent" (.ref p4) (putF "drags" (.ref p3) (putF "primary" (.ref p2) (putF "gifts" (.ref p1) []))))) st4.1 st4.2.1 st4.2.2 n5
    have e5 := (same_upd (o := .lst []) n5) _ _ st4.2.1
    refine ⟨_, rfl, ob, _, dx, _, rfl, e5, T.clExchange, T.nExchange_asked, Nat.lt_of_le_of_lt (m := 4) (lput _ _ _ 3 (lput _ _ _ 2 (lput _ _ _ 1 (lput _ _ _ 0 (Nat.le_refl _))))) (by decide), ?_⟩
    generalize (upd (upd K4 p5 (.lst [])) ob (.ins A.CExchange dx (putF "asked" (.ref p5) (putF "sent" (.ref p4) (putF "drags" (.ref p3) (putF "primary" (.ref p2) (putF "gifts" (.ref p1) []))))))) = K5 at st5 ⊢
    refine ⟨_, rfl, ob, _, dx, _, rfl, st5.2.1, T.clExchange, T.nExchange_count, Nat.lt_of_le_of_lt (m := 5) (lput _ _ _ 4 (lput _ _ _ 3 (lput _ _ _ 2 (lput _ _ _ 1 (lput _ _ _ 0 (Nat.le_refl _)))))) (by decide), ?_⟩
    refine ⟨_, rfl, ob, _, dx, _, rfl, upd_same, T.clExchange, T.nExchange_hovered, Nat.lt_of_le_of_lt (m := 6) (lput _ _ _ 5 (lput _ _ _ 4 (lput _ _ _ 3 (lput _ _ _ 2 (lput _ _ _ 1 (lput _ _ _ 0 (Nat.le_refl _))))))) (by decide), ?_⟩
    rw [xF_new]
    obtain ⟨b5, o5, l5⟩ := st5
    have nob : ∀ q ∈ [p5, p4, p3, p2, p1], q ≠ ob := fun q hq z => by
      have := (l5 q hq).1
      rw [z, o5] at this; cases this
    have hU : ∀ q ∈ [p5, p4, p3, p2, p1], (fun b => if b ∈ [p5, p4, p3, p2, p1] then some (HO.lst []) else none : Hp) q = some (.lst []) := fun q hq => if_pos hq
    have uob : (fun b => if b ∈ [p5, p4, p3, p2, p1] then some (HO.lst []) else none : Hp) ob = none := if_neg fun z => nob ob z rfl
    refine q _ (fun b => if b ∈ [p5, p4, p3, p2, p1] then some (HO.lst []) else none) (.ref p5) (fun b u h hb => by rw [upd_ne hb, upd_ne hb]; exact b5 b u h hb) (fun b hb => ?_) ⟨uob, fun b u h => ?_, ⟨dx, _, _, _, _, _, upd_same, ⟨p1, [], rfl, hU p1 (by simp), .nil⟩, ⟨p2, [], rfl, hU p2 (by simp), .nil⟩, ⟨p3, [], rfl, hU p3 (by simp), .nil⟩, ⟨p4, [], rfl, hU p4 (by simp), .nil⟩, .non⟩, Nat.zero_le _, Nat.zero_le _, Nat.zero_le _, Nat.zero_le _⟩ ⟨p5, [], rfl, hU p5 (by simp), trivial⟩
    · by_cases m : b ∈ [p5, p4, p3, p2, p1]
      · exact (l5 b m).2
      · exact absurd (if_neg m) hb
    · by_cases m : b ∈ [p5, p4, p3, p2, p1]
      · have h' : some (HO.lst []) = some u := by rw [← h]; exact (if_pos m).symm
        rw [upd_ne (nob b m), upd_ne (nob b m), (l5 b m).1]; exact h'
      · have h' : (none : Option HO) = some u := by rw [← h]; exact (if_neg m).symm
        cases h'
/-! ### the model of the law: a dict with seven texts as keys -/
theorem ne_gifts_primary : ((("gifts" : Str) = "primary") = False) := eq_false (by decide +kernel)
theorem ne_gifts_drags : ((("gifts" : Str) = "drags") = False) := eq_false (by decide +kernel)
theorem ne_gifts_sent : ((("gifts" : Str) = "sent") = False) := eq_false (by decide +kernel)
theorem ne_gifts_asked : ((("gifts" : Str) = "asked") = False) := eq_false (by decide +kernel)
theorem ne_gifts_count : ((("gifts" : Str) = "count") = False) := eq_false (by decide +kernel)
theorem ne_gifts_hovered : ((("gifts" : Str) = "hovered") = False) := eq_false (by decide +kernel)
theorem ne_primary_gifts : ((("primary" : Str) = "gifts") = False) := eq_false (by decide +kernel)
theorem ne_primary_drags : ((("primary" : Str) = "drags") = False) := eq_false (by decide +kernel)
theorem ne_primary_sent : ((("primary" : Str) = "sent") = False) := eq_false (by decide +kernel)
theorem ne_primary_asked : ((("primary" : Str) = "asked") = False) := eq_false (by decide +kernel)
theorem ne_primary_count : ((("primary" : Str) = "count") = False) := eq_false (by decide +kernel)
theorem ne_primary_hovered : ((("primary" : Str) = "hovered") = False) := eq_false (by decide +kernel)
theorem ne_drags_gifts : ((("drags" : Str) = "gifts") = False) := eq_false (by decide +kernel)
theorem ne_drags_primary : ((("drags" : Str) = "primary") = False) := eq_false (by decide +kernel)
theorem ne_drags_sent : ((("drags" : Str) = "sent") = False) := eq_false (by decide +kernel)
theorem ne_drags_asked : ((("drags" : Str) = "asked") = False) := eq_false (by decide +kernel)
theorem ne_drags_count : ((("drags" : Str) = "count") = False) := eq_false (by decide +kernel)
theorem ne_drags_hovered : ((("drags" : Str) = "hovered") = False) := eq_false (by decide +kernel)
theorem ne_sent_gifts : ((("sent" : Str) = "gifts") = False) := eq_false (by decide +kernel)
theorem ne_sent_primary : ((("sent" : Str) = "primary") = False) := eq_false (by decide +kernel)
theorem ne_sent_drags : ((("sent" : Str) = "drags") = False) := eq_false (by decide +kernel)
theorem ne_sent_asked : ((("sent" : Str) = "asked") = False) := eq_false (by decide +kernel)
theorem ne_sent_count : ((("sent" : Str) = "count") = False) := eq_false (by decide +kernel)
theorem ne_sent_hovered : ((("sent" : Str) = "hovered") = False) := eq_false (by decide +kernel)
theorem ne_asked_gifts : ((("asked" : Str) = "gifts") = False) := eq_false (by decide +kernel)
theorem ne_asked_primary : ((("asked" : Str) = "primary") = False) := eq_false (by decide +kernel)
theorem ne_asked_drags : ((("asked" : Str) = "drags") = False) := eq_false (by decide +kernel)
theorem ne_asked_sent : ((("asked" : Str) = "sent") = False) := eq_false (by decide +kernel)
theorem ne_asked_count : ((("asked" : Str) = "count") = False) := eq_false (by decide +kernel)
theorem ne_asked_hovered : ((("asked" : Str) = "hovered") = False) := eq_false (by decide +kernel)
theorem ne_count_gifts : ((("count" : Str) = "gifts") = False) := eq_false (by decide +kernel)
theorem ne_count_primary : ((("count" : Str) = "primary") = False) := eq_false (by decide +kernel)
theorem ne_count_drags : ((("count" : Str) = "drags") = False) := eq_false (by decide +kernel)
theorem ne_count_sent : ((("count" : Str) = "sent") = False) := eq_false (by decide +kernel)
theorem ne_count_asked : ((("count" : Str) = "asked") = False) := eq_false (by decide +kernel)
theorem ne_count_hovered : ((("count" : Str) = "hovered") = False) := eq_false (by decide +kernel)
theorem ne_hovered_gifts : ((("hovered" : Str) = "gifts") = False) := eq_false (by decide +kernel)
theorem ne_hovered_primary : ((("hovered" : Str) = "primary") = False) := eq_false (by decide +kernel)
theorem ne_hovered_drags : ((("hovered" : Str) = "drags") = False) := eq_false (by decide +kernel)
theorem ne_hovered_sent : ((("hovered" : Str) = "sent") = False) := eq_false (by decide +kernel)
theorem ne_hovered_asked : ((("hovered" : Str) = "asked") = False) := eq_false (by decide +kernel)
theorem ne_hovered_count : ((("hovered" : Str) = "count") = False) := eq_false (by decide +kernel)
def mK (g p d s a n h : V) : List (Key × V) := [(Sum.inr "gifts", g), (Sum.inr "primary", p), (Sum.inr "drags", d), (Sum.inr "sent", s), (Sum.inr "asked", a), (Sum.inr "count", n), (Sum.inr "hovered", h)]
theorem mK_g (g p d s a n h : V) : valV (mK g p d s a n h) (Sum.inr "gifts") = some g := by
  simp [valV, mK, ne_primary_gifts, ne_drags_gifts, ne_sent_gifts, ne_asked_gifts, ne_count_gifts, ne_hovered_gifts]
theorem mK_pg (g p d s a n h z : V) : putK (mK g p d s a n h) (Sum.inr "gifts") z = mK z p d s a n h := by
  simp [putK, mK, ne_primary_gifts, ne_drags_gifts, ne_sent_gifts, ne_asked_gifts, ne_count_gifts, ne_hovered_gifts]
theorem mK_p (g p d s a n h : V) : valV (mK g p d s a n h) (Sum.inr "primary") = some p := by
  simp [valV, mK, ne_gifts_primary, ne_drags_primary, ne_sent_primary, ne_asked_primary, ne_count_primary, ne_hovered_primary]
theorem mK_pp (g p d s a n h z : V) : putK (mK g p d s a n h) (Sum.inr "primary") z = mK g z d s a n h := by
  simp [putK, mK, ne_gifts_primary, ne_drags_primary, ne_sent_primary, ne_asked_primary, ne_count_primary, ne_hovered_primary]
theorem mK_d (g p d s a n h : V) : valV (mK g p d s a n h) (Sum.inr "drags") = some d := by
  simp [valV, mK, ne_gifts_drags, ne_primary_drags, ne_sent_drags, ne_asked_drags, ne_count_drags, ne_hovered_drags]
theorem mK_pd (g p d s a n h z : V) : putK (mK g p d s a n h) (Sum.inr "drags") z = mK g p z s a n h := by
  simp [putK, mK, ne_gifts_drags, ne_primary_drags, ne_sent_drags, ne_asked_drags, ne_count_drags, ne_hovered_drags]
theorem mK_s (g p d s a n h : V) : valV (mK g p d s a n h) (Sum.inr "sent") = some s := by
  simp [valV, mK, ne_gifts_sent, ne_primary_sent, ne_drags_sent, ne_asked_sent, ne_count_sent, ne_hovered_sent]
theorem mK_ps (g p d s a n h z : V) : putK (mK g p d s a n h) (Sum.inr "sent") z = mK g p d z a n h := by
  simp [putK, mK, ne_gifts_sent, ne_primary_sent, ne_drags_sent, ne_asked_sent, ne_count_sent, ne_hovered_sent]
theorem mK_a (g p d s a n h : V) : valV (mK g p d s a n h) (Sum.inr "asked") = some a := by
  simp [valV, mK, ne_gifts_asked, ne_primary_asked, ne_drags_asked, ne_sent_asked, ne_count_asked, ne_hovered_asked]
theorem mK_pa (g p d s a n h z : V) : putK (mK g p d s a n h) (Sum.inr "asked") z = mK g p d s z n h := by
  simp [putK, mK, ne_gifts_asked, ne_primary_asked, ne_drags_asked, ne_sent_asked, ne_count_asked, ne_hovered_asked]
theorem mK_n (g p d s a n h : V) : valV (mK g p d s a n h) (Sum.inr "count") = some n := by
  simp [valV, mK, ne_gifts_count, ne_primary_count, ne_drags_count, ne_sent_count, ne_asked_count, ne_hovered_count]
theorem mK_pn (g p d s a n h z : V) : putK (mK g p d s a n h) (Sum.inr "count") z = mK g p d s a z h := by
  simp [putK, mK, ne_gifts_count, ne_primary_count, ne_drags_count, ne_sent_count, ne_asked_count, ne_hovered_count]
theorem mK_h (g p d s a n h : V) : valV (mK g p d s a n h) (Sum.inr "hovered") = some h := by
  simp [valV, mK, ne_gifts_hovered, ne_primary_hovered, ne_drags_hovered, ne_sent_hovered, ne_asked_hovered, ne_count_hovered]
theorem mK_ph (g p d s a n h z : V) : putK (mK g p d s a n h) (Sum.inr "hovered") z = mK g p d s a n z := by
  simp [putK, mK, ne_gifts_hovered, ne_primary_hovered, ne_drags_hovered, ne_sent_hovered, ne_asked_hovered, ne_count_hovered]
theorem mK_len (g p d s a n h : V) : (mK g p d s a n h).length < sizeLine := by rw [sizeLine_eq]; show 7 < _; decide
/-! ### the law's own lists -/
/-- [row for row in rows if row[0] != slot] -/
theorem oth_row {K : PySem.W.Frag} {U H : Hp} {z : V} {r : Int × List PyData} (s : Same U H) (d : Dp K U z (rwD r)) : ∃ p ws, z = .ref p ∧ SqT K H p (.int r.1 :: ws) := by
  obtain ⟨p, xs, rfl, q, dx⟩ := dp_tuple d
  cases dx with
  | cons c1 c2 => cases c1; exact ⟨p, _, rfl, s.sqt q⟩
def sp__law_front (K : PySem.W.Frag) : Sp := fun vs H Q _ => ∃ (v vg : V) (rows : List (Int × List PyData)) (sl : Int) (gd : PyData) (U : Hp), vs = [v, .int sl, vg] ∧ Dp K U v (.list (rows.map rwD)) ∧ Dp K U vg gd ∧ Same U H ∧ rows.length < 1000 ∧
  ∀ v' U' H', Ext U H U' H' → Dp K U' v' (.list (((sl, [gd]) :: othR sl rows).map rwD)) → Q v' H'
theorem sc__law_front : FnScope ["rows", "slot", "goods", "row"] ["rows", "slot", "goods"] (defScope s__law_front) := ⟨rfl, rfl, rfl, by decide +kernel, rfl, by decide +kernel, by decide +kernel⟩
theorem ok__law_front (T : Txt K mg A) : FnOk P w K mg base CX0 1 A.f_law_front A.d_law_front ["rows", "slot", "goods"] (sp__law_front K) := by
  refine T.F_law_front.ok sc__law_front (fun vs H Q E h => ?_) (fun cdv Ar outer s H vs Q E hr h => ?_)
  · obtain ⟨_, _, _, _, _, _, rfl, _⟩ := h
    rfl
  · obtain ⟨v, vg, rows, sl, gd, U, rfl, dr, dg, sU, hl, q⟩ := h
    obtain ⟨a, zs, rfl, qs, ds⟩ := dp_list dr
    have hzl : zs.length = rows.length := by rw [dpall_len ds, List.length_map]
    refine ⟨_, (pss_one (ps_ret (pe_op op_cat (pe_lst (pa_cons (pe_tup (pa_cons (pv 1) (pa_cons (pv 2) pa_nil))) pa_nil)) (pe_lc (own := [("row", 3)]) (g := (gName 3)) rfl sc__law_front.nd (pi_list (pv 0)) (blkOk_by (own := [("row", 3)]) (N := ["rows", "slot", "goods", "row"]) (sc := defScope s__law_front) (by decide +kernel)) (fun _ _ _ _ _ => (pg_name (i := 3) sc__law_front.nd rfl (Or.inl rfl))) (fun _ _ _ _ _ => (pts_one (pt_cmpR op_ne (pe_ix (r := rIxT K) ix_tup (pv 3) pe_int (fun _ _ => rfl)) (pv 1) (nomark _)))) (fun _ _ _ _ _ => by exact (pv 3)))))), ?_⟩
    refine ⟨_, rfl, _, rfl, len_line (by show 2 ≤ 100000; decide), fun p1 n1 => ⟨len_line (by show 1 ≤ 100000; decide), fun p2 n2 => ?_⟩⟩
    have x1 := Ext.new (o := .tup [.int sl, vg]) sU n1
    have s1 := same_upd (o := .tup [.int sl, vg]) (none_of_same sU n1)
    have x2 := x1.trans (Ext.new (o := .lst [.ref p1]) x1.vh n2)
    have s2 := same_upd (o := .lst [.ref p1]) (none_of_same x1.vh n2)
    have hp : Dp K _ (.ref p1) (rwD (sl, [gd])) := .tup (SqT.of upd_same) (.cons (.int _) (.cons (dg.to s1) .nil))
    have hp2 := hp.to s2
    have e2 : (upd (upd H p1 (.tup [.int sl, vg])) p2 (.lst [.ref p1])) p2 = some (.lst [.ref p1]) := upd_same
    generalize upd (upd H p1 (.tup [.int sl, vg])) p2 (.lst [.ref p1]) = H2 at x2 e2 ⊢
    generalize upd (upd U p1 (.tup [.int sl, vg])) p2 (.lst [.ref p1]) = U2 at x2 hp2 ⊢
    have ds2 := ds.to x2.vv
    have qs2 := x2.vh.seq (x2.vv.seq qs)
    refine ⟨_, rfl, a, rfl, ⟨_, qs2⟩, fun D hD => ?_⟩
    refine lc_dp (walk_list (K := K) (a := a) (xs := zs)) (K := K) (V0 := U2) (H0 := H2) (fun i => (rows[i]?).bind fun r => if r.1 ≠ sl then some (rwD r) else none) _ rfl x2.vh hD (by omega) (fun H' s => s.seq qs2) (fun i x H H' y => y.1) ?_ ?_
    · rintro n z U4 H4 hn' xx ⟨_, hz⟩ Qy Qn hy hno
      obtain ⟨d, hd, dv⟩ := dpall_get ds2 hz
      rw [List.getElem?_map] at hd
      obtain ⟨r, hr, rfl⟩ := Option.map_eq_some_iff.mp hd
      have dv4 := dv.to xx.vv
      obtain ⟨pt, ws, rfl, qw⟩ := oth_row xx.vh dv4
      refine ⟨rfl, _, rfl, pt, _, _, _, rfl, rfl, qw, atI_nat (j := 0) rfl, _, rfl, rfl, _, rfl, ?_⟩
      rw [dec_int]
      by_cases c : r.1 = sl
      · rw [show (r.1 == sl) = true from beq_iff_eq.mpr c]
        exact if_f (b := !true) rfl (hno (by rw [hr]; exact if_neg (fun n => n c)) _ _ (Ext.refl xx.vh))
      · rw [show (r.1 == sl) = false from beq_eq_false_iff_ne.mpr c]
        exact if_t (b := !false) rfl ⟨_, rfl, hy (rwD r) _ _ _ (by rw [hr]; exact if_pos c) (Ext.refl xx.vh) dv4⟩
    · rintro U4 H4 ws xx uD dA dl
      rw [fm_fmap (fun r => if r.1 ≠ sl then some (rwD r) else none) rows _ hzl _ (fun i x h => by rw [h]; rfl), filterMap_oth] at dA
      have hwl : ws.length = (othR sl rows).length := by rw [dpall_len dA, List.length_map]
      have hol : (othR sl rows).length ≤ rows.length := List.length_filter_le _ _
      refine ⟨p2, D, _, _, rfl, rfl, xx.hh _ _ e2, xx.vh _ _ uD, ?_, fun r hr => ?_⟩
      · rw [sizeLine_eq]; show 1 + ws.length ≤ _; omega
      have x5 := (x2.trans xx).trans (Ext.new (o := .lst ([.ref p1] ++ ws)) xx.vh hr)
      have s5 := same_upd (o := .lst ([.ref p1] ++ ws)) (none_of_same xx.vh hr)
      exact q _ _ _ x5 (.lst (SqL.of upd_same) (.cons ((hp2.to xx.vv).to s5) (dA.to s5)))
def arD (r : Ark) : PyData := .list [.int r.n, .int r.s, .int r.c, r.o, .int r.x, .int r.y, .int r.w, .int r.h]
def sp__law_asked (C CA : Addr) (K : PySem.W.Frag) : Sp := fun vs H Q _ => ∃ (ob : Addr) (m : Xm) (va : V) (rs : List Ark) (U : Hp), vs = [.ref ob] ∧ XAt C K U H ob m va ∧ AsAt CA K U va rs ∧ rs.length < 1000 ∧
  ∀ v' U' H', Ext U H U' H' → Dp K U' v' (.list (rs.map arD)) → Q v' H'
theorem sc__law_asked : FnScope ["exchange", "rows", "one"] ["exchange"] (defScope s__law_asked) := ⟨rfl, rfl, rfl, by decide +kernel, rfl, by decide +kernel, by decide +kernel⟩
theorem ok__law_asked (T : Txt K mg A) : FnOk P w K mg base CX0 1 A.f_law_asked A.d_law_asked ["exchange"] (sp__law_asked A.CExchange A.CAsked K) := by
  refine T.F_law_asked.ok sc__law_asked (fun vs H Q E h => ?_) (fun cdv Ar outer s H vs Q E hr h => ?_)
  · obtain ⟨_, _, _, _, _, rfl, _⟩ := h
    rfl
  · obtain ⟨ob, m, va, rs, U, rfl, X, ⟨aa, za, rfl, ea, da⟩, hl, q⟩ := h
    obtain ⟨dx, fg, fp, fd, fs, fh, e1, _⟩ := X.ob
    have hza : za.length = rs.length := allr_len da
    have ea' := X.sU _ _ ea
    refine ⟨_, (pss_cons (ps_set (i := 1) sc__law_asked.nd rfl (Or.inl rfl) (pe_lst pa_nil))
      (pss_cons (ps_for PassesOwn.never rfl (pi_list (pe_fld (pv 0) rfl)) (pg_name (i := 2) sc__law_asked.nd rfl (Or.inl rfl))
      (pss_one (ps_expr (pe_bm PySem.F.plainAttrs_list PySem.F.slot_list_append PySem.F.type_list_append mt_append (pv 1) (pa_cons (pe_lst (pa_cons (pe_fld (pv 2) rfl) (pa_cons (pe_fld (pv 2) rfl) (pa_cons (pe_fld (pv 2) rfl) (pa_cons (pe_fld (pv 2) rfl) (pa_cons (pe_fld (pv 2) rfl) (pa_cons (pe_fld (pv 2) rfl) (pa_cons (pe_fld (pv 2) rfl) (pa_cons (pe_fld (pv 2) rfl) pa_nil))))))))) pa_nil)))))
      (pss_one (ps_ret (pv 1))))), ?_⟩
    refine ⟨len_line (by show 0 ≤ 100000; decide), fun D hD => ?_⟩
    have hUD : U D = none := none_of_same X.sU hD
    refine ⟨_, rfl, ob, _, dx, _, _, rfl, same_upd hD _ _ e1, T.clExchange, T.nExchange_asked, xF_a _ _ _ _ _ _ _, ?_⟩
    refine ⟨aa, rfl, ⟨_, SqL.of (same_upd hD _ _ ea')⟩, for_list (K := K) (a := aa) (xs := za) (fun i σ H' => ∃ (v2 : Option V) (V' : Hp) (zs : List V), σ = [some (.ref ob), some (.ref D), v2] ∧ Ext U H V' H' ∧ V' D = none ∧ H' D = some (.lst zs) ∧ DpAll K V' zs ((rs.take i).map arD)) ?_ ?_ ?_ ?_⟩
    · exact ⟨_, U, [], rfl, Ext.skip X.sU hD, hUD, upd_same, .nil⟩
    · rintro i σ H' _ ⟨_, V', zs, _, x, _⟩
      exact SqL.of (x.hh _ _ ea')
    · rintro i z σ H3 hz ⟨v2, V3, zs, rfl, x3, hV3, e3, dz⟩
      obtain ⟨r, hr, hi⟩ := allr_get da hz
      obtain ⟨p, dp, vo, rfl, ep, dvo⟩ := insA_mono _ _ _ _ _ _ x3.vv hi
      have ep' := x3.vh _ _ ep
      have hzl : zs.length ≤ i := by rw [dpall_len dz, List.length_map, List.length_take]; omega
      have hi2 : i < rs.length := (List.getElem?_eq_some_iff.mp hr).1
      refine ⟨_, rfl, .inl ⟨rfl, _, SqL.of e3⟩, ?_⟩
      refine ⟨_, rfl, p, _, dp, _, _, rfl, ep', T.clAsked, T.nAsked_number, aF_n _ _ _ _ _ _ _ _, _, rfl, p, _, dp, _, _, rfl, ep', T.clAsked, T.nAsked_slot, aF_s _ _ _ _ _ _ _ _, _, rfl, p, _, dp, _, _, rfl, ep', T.clAsked, T.nAsked_capture, aF_c _ _ _ _ _ _ _ _, _, rfl, p, _, dp, _, _, rfl, ep', T.clAsked, T.nAsked_output, aF_o _ _ _ _ _ _ _ _, ?_⟩
      refine ⟨_, rfl, p, _, dp, _, _, rfl, ep', T.clAsked, T.nAsked_x, aF_x _ _ _ _ _ _ _ _, _, rfl, p, _, dp, _, _, rfl, ep', T.clAsked, T.nAsked_y, aF_y _ _ _ _ _ _ _ _, _, rfl, p, _, dp, _, _, rfl, ep', T.clAsked, T.nAsked_width, aF_w _ _ _ _ _ _ _ _, _, rfl, p, _, dp, _, _, rfl, ep', T.clAsked, T.nAsked_height, aF_h _ _ _ _ _ _ _ _, len_line (by show 8 ≤ 100000; decide), fun p5 n5 => ?_⟩
      have xn := Ext.new (o := .lst [.int r.n, .int r.s, .int r.c, vo, .int r.x, .int r.y, .int r.w, .int r.h]) x3.vh n5
      have hV5 := xn.keepOut hV3 (by rw [e3]; exact fun z => by cases z)
      refine ⟨D, _, _, rfl, rfl, xn.hh _ _ e3, lt_line (by omega), ?_⟩
      refine ⟨_, _, _, rfl, (x3.trans xn).poke hD hV5, hV5, upd_same, ?_⟩
      rw [List.take_succ_eq_append_getElem hi2, (List.getElem?_eq_some_iff.mp hr).2, List.map_append]
      exact dpall_app (dz.to xn.vv) (.cons (.lst (SqL.of upd_same) (.cons (.int _) (.cons (.int _) (.cons (.int _) (.cons (dvo.to xn.vv) (.cons (.int _) (.cons (.int _) (.cons (.int _) (.cons (.int _) .nil))))))))) .nil)
    · rintro σ H3 ⟨v2, V3, zs, rfl, x3, hV3, e3, dz⟩
      rw [hza, List.take_length] at dz
      exact ⟨_, rfl, q _ _ _ (x3.take hD hV3 e3) (.lst (SqL.of upd_same) (dz.to (same_upd hV3)))⟩
/-! ### the exchange and the law's model of it -/
theorem XAt.ext {C : Addr} {K : PySem.W.Frag} {U H U' H' : Hp} {o : Addr} {m : Xm} {va : V} (X : XAt C K U H o m va) (x : Ext U H U' H') : XAt C K U' H' o m va := by
  obtain ⟨dx, g, p, d, s, h, e1, d1, d2, d3, d4, d5⟩ := X.ob
  exact ⟨x.keepOut X.uo (by rw [e1]; exact fun z => by cases z), x.vh, ⟨dx, g, p, d, s, h, x.hh _ _ e1, d1.to x.vv, d2.to x.vv, d3.to x.vv, d4.to x.vv, d5.to x.vv⟩, X.lg, X.lp, X.ld, X.ls⟩
theorem XAt.poke {C : Addr} {K : PySem.W.Frag} {U H : Hp} {o md : Addr} {m : Xm} {va : V} {w : HO} (X : XAt C K U H o m va) (h : U md = none) (hne : o ≠ md) : XAt C K U (upd H md w) o m va := by
  obtain ⟨dx, g, p, d, s, hh, e1, ds⟩ := X.ob
  exact ⟨X.uo, same_poke X.sU h, ⟨dx, g, p, d, s, hh, by rw [upd_ne hne]; exact e1, ds⟩, X.lg, X.lp, X.ld, X.ls⟩
/-- a list that stands in the view, of data -/
def LsD (K : PySem.W.Frag) (U : Hp) (v : V) (ds : List PyData) : Prop := ∃ a zs, v = .ref a ∧ U a = some (.lst zs) ∧ DpAll K U zs ds
theorem LsD.to {K : PySem.W.Frag} {U U' : Hp} {v : V} {ds : List PyData} (h : LsD K U v ds) (s : Same U U') : LsD K U' v ds := by
  obtain ⟨a, zs, e, e1, d⟩ := h
  exact ⟨a, zs, e, s _ _ e1, d.to s⟩
theorem LsD.dp {K : PySem.W.Frag} {U : Hp} {v : V} {ds : List PyData} (h : LsD K U v ds) : Dp K U v (.list ds) := by
  obtain ⟨a, zs, rfl, e1, d⟩ := h
  exact .lst (SqL.of e1) d
structure Both (C CA : Addr) (K : PySem.W.Frag) (U H : Hp) (ob md : Addr) (n : Nat) (m : Xm) (S : List (Int × Str × List Int)) (rs : List Ark) (hv : Option (Int × Int)) : Prop where
  X : ∃ va, XAt C K U H ob m va ∧ AsAt CA K U va rs
  snt : m.sent = S.map snD
  hvv : m.hov = hovD hv
  oS : ∀ r ∈ S, PyData.strOk r.2.1 = true
  gg : ∀ r ∈ m.gifts, ∀ d ∈ r.2, Sh 3 d
  gp : ∀ r ∈ m.primary, ∀ d ∈ r.2, Sh 3 d
  gd : ∀ r ∈ m.drags, ∀ d ∈ r.2, Sh 3 d
  oo : ∀ r ∈ rs, Sh 1 r.o
  ud : U md = none
  dk : ∃ g p d s a h, H md = some (.dK (mK g p d s a (.int m.count) h)) ∧ Dp K U g (.list (m.gifts.map rwD)) ∧ Dp K U p (.list (m.primary.map rwD)) ∧ LsD K U d (m.drags.map rwD) ∧ Dp K U s (.list (m.sent.map rwD)) ∧ LsD K U a (rs.map arD) ∧ Dp K U h m.hov
  lg : m.gifts.length ≤ n
  lp : m.primary.length ≤ n
  ld : m.drags.length ≤ n
  lS : S.length ≤ n
  lr : rs.length ≤ n
theorem Both.ne {C CA : Addr} {K : PySem.W.Frag} {U H : Hp} {ob md : Addr} {n : Nat} {m : Xm} {S : List (Int × Str × List Int)} {rs : List Ark} {hv : Option (Int × Int)} (B : Both C CA K U H ob md n m S rs hv) : ob ≠ md := by
  obtain ⟨va, X, _⟩ := B.X
  obtain ⟨dx, g, p, d, s, hh, e1, _⟩ := X.ob
  obtain ⟨g', p', d', s', a', h', e2, _⟩ := B.dk
  intro z
  rw [z, e2] at e1
  cases e1
theorem Both.ext {C CA : Addr} {K : PySem.W.Frag} {U H U' H' : Hp} {ob md : Addr} {n : Nat} {m : Xm} {S : List (Int × Str × List Int)} {rs : List Ark} {hv : Option (Int × Int)} (B : Both C CA K U H ob md n m S rs hv) (x : Ext U H U' H') : Both C CA K U' H' ob md n m S rs hv := by
  obtain ⟨va, X, A⟩ := B.X
  obtain ⟨g, p, d, s, a, h, e, d1, d2, d3, d4, d5, d6⟩ := B.dk
  exact ⟨⟨va, X.ext x, A.to x.vv⟩, B.snt, B.hvv, B.oS, B.gg, B.gp, B.gd, B.oo, x.keepOut B.ud (by rw [e]; exact fun z => by cases z), ⟨g, p, d, s, a, h, x.hh _ _ e, d1.to x.vv, d2.to x.vv, d3.to x.vv, d4.to x.vv, d5.to x.vv, d6.to x.vv⟩, B.lg, B.lp, B.ld, B.lS, B.lr⟩
theorem DGet.v {H : Hp} {a : Addr} {kvs : List (Key × V)} {k : Key} {v : V} (e : H a = some (.dK kvs)) (h : valV kvs k = some v) : DGet H a (kV k) (some v) := h ▸ DGet.k e
theorem sh_rw {r : Int × List PyData} (h : ∀ d ∈ r.2, Sh 3 d) : Sh 4 (rwD r) := sh_tuple fun d hd => by
  rcases List.mem_cons.mp hd with rfl | hd
  · exact (sh_int _).mono (by decide)
  · exact h d hd
theorem sh_rws {rows : List (Int × List PyData)} (h : ∀ r ∈ rows, ∀ d ∈ r.2, Sh 3 d) : Sh 5 (.list (rows.map rwD)) := sh_list fun d hd => by
  obtain ⟨r, hr, rfl⟩ := List.mem_map.mp hd
  exact sh_rw (h r hr)
theorem sh_hov (hv : Option (Int × Int)) : Sh 1 (hovD hv) := by
  cases hv with
  | none => exact sh_none.mono (by decide)
  | some p => exact sh_ii _ _
theorem sh_ars {rs : List Ark} (h : ∀ r ∈ rs, Sh 1 r.o) : Sh 3 (.list (rs.map arD)) := sh_list fun d hd => by
  obtain ⟨r, hr, rfl⟩ := List.mem_map.mp hd
  refine sh_list fun d hd => ?_
  simp only [List.mem_cons, List.not_mem_nil, or_false] at hd
  rcases hd with rfl | rfl | rfl | rfl | rfl | rfl | rfl | rfl
  all_goals first | exact h r hr | exact (sh_int _).mono (by decide)
theorem sh_sn {S : List (Int × Str × List Int)} (h : ∀ r ∈ S, PyData.strOk r.2.1 = true) : ∀ r ∈ S.map snD, ∀ d ∈ r.2, Sh 3 d := fun r hr d hd => by
  obtain ⟨q, hq, rfl⟩ := List.mem_map.mp hr
  have hd' : d ∈ [PyData.str q.2.1, .list (q.2.2.map PyData.int)] := hd
  simp only [List.mem_cons, List.not_mem_nil, or_false] at hd'
  rcases hd' with rfl | rfl
  · exact (sh_str (h q hq)).mono (by decide)
  · exact (sh_ints _).mono (by decide)
def sp__law_same (C CA : Addr) (K : PySem.W.Frag) : Sp := fun vs H Q _ => ∃ (ob md : Addr) (n : Nat) (m : Xm) (S : List (Int × Str × List Int)) (rs : List Ark) (hv : Option (Int × Int)) (U : Hp), vs = [.ref ob, .ref md] ∧ Both C CA K U H ob md n m S rs hv ∧ n ≤ 60 ∧
  ∀ U' H', Ext U H U' H' → Q (.bl true) H'
theorem sc__law_same : FnScope ["exchange", "model"] ["exchange", "model"] (defScope s__law_same) := ⟨rfl, rfl, rfl, by decide +kernel, rfl, by decide +kernel, by decide +kernel⟩
theorem ok__law_same (T : Txt K mg A) : FnOk P w K mg base CX0 2 A.f_law_same A.d_law_same ["exchange", "model"] (sp__law_same A.CExchange A.CAsked K) := by
  refine T.F_law_same.ok sc__law_same (fun vs H Q E h => ?_) (fun cdv Ar outer s H vs Q E hr h => ?_)
  · obtain ⟨_, _, _, _, _, _, _, _, rfl, _⟩ := h
    rfl
  · obtain ⟨ob, md, n, m, S, rs, hv, U, rfl, B, hn, q⟩ := h
    obtain ⟨va, X, As⟩ := B.X
    obtain ⟨dx, fg, fp, fd, fs, fh, e1, x1, x2, x3, x4, x5⟩ := X.ob
    obtain ⟨g, p, d, sv, a, h, e2, d1, d2, d3, d4, d5, d6⟩ := B.dk
    have sU := X.sU
    have lr := B.lr
    refine ⟨_, (pss_cons (ps_if (PW.pt (pw_or (pt_cmpR (op_neD hr.units) (pe_fld (pv 0) rfl) (pe_dget (hu_of hr) (pv 1) pe_str (fun _ _ => rfl)) (nomark _)) (pw_or (pt_cmpR (op_neD hr.units) (pe_fld (pv 0) rfl) (pe_dget (hu_of hr) (pv 1) pe_str (fun _ _ => rfl)) (nomark _)) (pw_or1 (pt_cmpR (op_neD hr.units) (pe_fld (pv 0) rfl) (pe_dget (hu_of hr) (pv 1) pe_str (fun _ _ => rfl)) (nomark _))))))
      (pss_one (ps_ret pe_bl))
      pss_nil)
      (pss_cons (ps_if (PW.pt (pw_or (pt_cmpR (op_neD hr.units) (pe_fld (pv 0) rfl) (pe_dget (hu_of hr) (pv 1) pe_str (fun _ _ => rfl)) (nomark _)) (pw_or (pt_cmpR op_ne (pe_fld (pv 0) rfl) (pe_dget (hu_of hr) (pv 1) pe_str (fun _ _ => rfl)) (nomark _)) (pw_or1 (pt_cmpR (op_neD hr.units) (pe_fld (pv 0) rfl) (pe_dget (hu_of hr) (pv 1) pe_str (fun _ _ => rfl)) (nomark _))))))
      (pss_one (ps_ret pe_bl))
      pss_nil)
      (pss_one (ps_ret (pe_cmpR (op_eqD hr.units) (pe_call (ok__law_asked T) (hr.mono (by decide)) rfl T.g_law_asked T.k_law_asked T.b_law_asked .nil pass0 (pa_cons (pv 0) pa_nil)) (pe_dget (hu_of hr) (pv 1) pe_str (fun _ _ => rfl)) (nomark _)))))), ?_⟩
    refine ⟨_, rfl, ob, _, dx, _, _, rfl, e1, T.clExchange, T.nExchange_gifts, xF_g _ _ _ _ _ _ _, _, rfl, md, _, rfl, DGet.v e2 (mK_g _ _ _ _ _ _ _), _, _, x1.dp.to sU, d1.to sU, (sh_rws B.gg).shaped, (sh_rws B.gg).shaped, _, rfl, if_f (by rw [(sh_rws B.gg).self]; rfl) ?_⟩
    refine ⟨_, rfl, ob, _, dx, _, _, rfl, e1, T.clExchange, T.nExchange_primary, xF_p _ _ _ _ _ _ _, _, rfl, md, _, rfl, DGet.v e2 (mK_p _ _ _ _ _ _ _), _, _, x2.dp.to sU, d2.to sU, (sh_rws B.gp).shaped, (sh_rws B.gp).shaped, _, rfl, if_f (by rw [(sh_rws B.gp).self]; rfl) ?_⟩
    refine ⟨_, rfl, ob, _, dx, _, _, rfl, e1, T.clExchange, T.nExchange_drags, xF_d _ _ _ _ _ _ _, _, rfl, md, _, rfl, DGet.v e2 (mK_d _ _ _ _ _ _ _), _, _, x3.dp.to sU, d3.dp.to sU, (sh_rws B.gd).shaped, (sh_rws B.gd).shaped, _, rfl, ?_⟩
    refine if_f (by rw [(sh_rws B.gd).self]; rfl) ?_
    have gs : ∀ r ∈ m.sent, ∀ d ∈ r.2, Sh 3 d := by rw [B.snt]; exact sh_sn B.oS
    have hs : Sh 1 m.hov := by rw [B.hvv]; exact sh_hov hv
    refine ⟨_, rfl, ob, _, dx, _, _, rfl, e1, T.clExchange, T.nExchange_sent, xF_s _ _ _ _ _ _ _, _, rfl, md, _, rfl, DGet.v e2 (mK_s _ _ _ _ _ _ _), _, _, x4.dp.to sU, d4.to sU, (sh_rws gs).shaped, (sh_rws gs).shaped, _, rfl, if_f (by rw [(sh_rws gs).self]; rfl) ?_⟩
    refine ⟨_, rfl, ob, _, dx, _, _, rfl, e1, T.clExchange, T.nExchange_count, xF_n _ _ _ _ _ _ _, _, rfl, md, _, rfl, DGet.v e2 (mK_n _ _ _ _ _ _ _), rfl, _, rfl, if_f (by rw [decide_eq_true rfl]; rfl) ?_⟩
    refine ⟨_, rfl, ob, _, dx, _, _, rfl, e1, T.clExchange, T.nExchange_hovered, xF_h _ _ _ _ _ _ _, _, rfl, md, _, rfl, DGet.v e2 (mK_h _ _ _ _ _ _ _), _, _, x5.to sU, d6.to sU, hs.shaped, hs.shaped, _, rfl, ?_⟩
    refine if_f (by rw [hs.self]; rfl) ?_
    refine ⟨_, rfl, ob, m, va, rs, U, rfl, X, As, by omega, fun v' U' H' x' dv' => ?_⟩
    refine ⟨_, rfl, md, _, rfl, DGet.v (x'.hh _ _ e2) (mK_a _ _ _ _ _ _ _), _, _, dv'.to x'.vh, (d5.to x'.vv).dp.to x'.vh, (sh_ars B.oo).shaped, (sh_ars B.oo).shaped, ?_⟩
    rw [(sh_ars B.oo).self]
    exact q _ _ x'
/-- all but the exchange and the model are as they were -/
def But2 (H H' : Hp) (ob md : Addr) : Prop := ∀ b u, H b = some u → b ≠ ob → b ≠ md → H' b = some u
def sp_deed (C CA : Addr) (K : PySem.W.Frag) (args : Int → Int → Int → List V) (ok : Int → Prop) : Sp := fun vs H Q _ => ∃ (ob md : Addr) (deed slot row : Int) (n : Nat) (m : Xm) (S : List (Int × Str × List Int)) (rs : List Ark) (hv : Option (Int × Int)) (U : Hp), vs = .ref ob :: .ref md :: args deed slot row ∧ ok deed ∧ Both C CA K U H ob md n m S rs hv ∧ n < 50 ∧
  ∀ U' H' m' S' rs' hv', But2 H H' ob md → Both C CA K U' H' ob md (n + 1) m' S' rs' hv' → Q .non H'
theorem str3 {i : Int} (h : 0 ≤ i ∧ i < 3) (p : Str) (hp : p = "k" ∨ p = "n") : PyData.strOk (p ++ Str.ofString (toString i)) = true := by
  rcases (by omega : i = 0 ∨ i = 1 ∨ i = 2) with rfl | rfl | rfl <;> rcases hp with rfl | rfl <;> decide +kernel
theorem log3 {i : Int} (h : 0 ≤ i ∧ i < 3) : i.natAbs.log2 < 1920 := by
  rcases (by omega : i = 0 ∨ i = 1 ∨ i = 2) with rfl | rfl | rfl <;> decide
theorem len3 {i : Int} (h : 0 ≤ i ∧ i < 3) (p : Str) (hp : p = "k" ∨ p = "n") : p.length + (Str.ofString (toString i)).length ≤ sizeLine := by
  rw [sizeLine_eq]
  rcases (by omega : i = 0 ∨ i = 1 ∨ i = 2) with rfl | rfl | rfl <;> rcases hp with rfl | rfl <;> decide +kernel
theorem xF_no (g p d s a : V) (n : Int) (h : V) {m : Str} (h1 : (m == ("gifts" : Str)) = false) (h2 : (m == ("primary" : Str)) = false) (h3 : (m == ("drags" : Str)) = false) (h4 : (m == ("sent" : Str)) = false) (h5 : (m == ("asked" : Str)) = false) (h6 : (m == ("count" : Str)) = false) (h7 : (m == ("hovered" : Str)) = false) : (xF g p d s a n h).lookup m = none := by
  unfold xF
  rw [lk_ne h1, lk_ne h2, lk_ne h3, lk_ne h4, lk_ne h5, lk_ne h6, lk_ne h7]; rfl
theorem shc {rows : List (Int × List PyData)} {r0 : Int × List PyData} (h0 : ∀ d ∈ r0.2, Sh 3 d) (h : ∀ r ∈ rows, ∀ d ∈ r.2, Sh 3 d) : ∀ r ∈ r0 :: rows, ∀ d ∈ r.2, Sh 3 d := fun r hr => by
  rcases List.mem_cons.mp hr with rfl | hr
  · exact h0
  · exact h r hr
theorem sho {rows : List (Int × List PyData)} {sl : Int} (h : ∀ r ∈ rows, ∀ d ∈ r.2, Sh 3 d) : ∀ r ∈ othR sl rows, ∀ d ∈ r.2, Sh 3 d := fun r hr => h r (List.mem_filter.mp hr).1
theorem oth_le {rows : List (Int × List PyData)} {sl : Int} {n : Nat} (h : rows.length ≤ n) : (othR sl rows).length ≤ n := Nat.le_trans (List.length_filter_le _ _) h
theorem sc__law_give : FnScope ["exchange", "model", "deed", "slot", "row", "goods"] ["exchange", "model", "deed", "slot", "row"] (defScope s__law_give) := ⟨rfl, rfl, rfl, by decide +kernel, rfl, by decide +kernel, by decide +kernel⟩
theorem ok__law_give (T : Txt K mg A) : FnOk P w K mg base CX0 3 A.f_law_give A.d_law_give ["exchange", "model", "deed", "slot", "row"] (sp_deed A.CExchange A.CAsked K (fun d s r => [.int d, .int s, .int r]) (fun d => 0 ≤ d ∧ d < 3)) := by
  refine T.F_law_give.ok sc__law_give (fun vs H Q E h => ?_) (fun cdv Ar outer s H vs Q E hr h => ?_)
  · obtain ⟨_, _, _, _, _, _, _, _, _, _, _, rfl, _⟩ := h
    rfl
  · obtain ⟨ob, md, deed, slot, row, n, m, S, rs, hv, U, rfl, hok, B, hn, q⟩ := h
    refine ⟨_, (pss_cons (ps_set (i := 5) sc__law_give.nd rfl (Or.inl rfl) (pe_lst (pa_cons (pe_tup (pa_cons (pe_op op_add_str pe_str (pe_callTy call_str_int (by rfl) T.str (by decide +kernel) (pa_cons (pe_op op_mod (pe_callTy call_int1 (by rfl) T.int (by decide +kernel) (pa_cons (pv 4) pa_nil)) pe_int) pa_nil))) (pa_cons (pe_lst (pa_cons (pe_op op_mod (pe_callTy call_int1 (by rfl) T.int (by decide +kernel) (pa_cons (pe_op op_fdiv (pv 4) pe_int) pa_nil)) pe_int) pa_nil)) pa_nil))) pa_nil)))
      (pss_one (ps_if (pt_cmpR op_eq (pv 2) pe_int (nomark _))
      (pss_cons (ps_expr (pe_meth (pv 0) T.clExchange T.mExchange_give (ok_Exchange_give T) (hr.mono (by decide)) T.bExchange_give .nil pass0 (pa_cons (pv 3) (pa_cons (pv 5) (pa_cons pe_bl pa_nil)))))
      (pss_one (ps_dput (hu_of hr) (pv 1) pe_str (pe_call (ok__law_front T) (hr.mono (by decide)) rfl T.g_law_front T.k_law_front T.b_law_front .nil pass0 (pa_cons (pe_dget (hu_of hr) (pv 1) pe_str (fun _ _ => rfl)) (pa_cons (pv 3) (pa_cons (pv 5) pa_nil)))) rfl)))
      (pss_one (ps_if (pt_cmpR op_eq (pv 2) pe_int (nomark _))
      (pss_cons (ps_expr (pe_meth (pv 0) T.clExchange T.mExchange_give (ok_Exchange_give T) (hr.mono (by decide)) T.bExchange_give .nil pass0 (pa_cons (pv 3) (pa_cons (pv 5) (pa_cons pe_bl pa_nil)))))
      (pss_one (ps_dput (hu_of hr) (pv 1) pe_str (pe_call (ok__law_front T) (hr.mono (by decide)) rfl T.g_law_front T.k_law_front T.b_law_front .nil pass0 (pa_cons (pe_dget (hu_of hr) (pv 1) pe_str (fun _ _ => rfl)) (pa_cons (pv 3) (pa_cons (pv 5) pa_nil)))) rfl)))
      (pss_cons (ps_expr (pe_meth (pv 0) T.clExchange T.mExchange_drag (ok_Exchange_drag T) (hr.mono (by decide)) T.bExchange_drag .nil pass0 (pa_cons (pv 3) (pa_cons (pv 5) pa_nil))))
      (pss_one (ps_dput (hu_of hr) (pv 1) pe_str (pe_op op_cat (pe_lst (pa_cons (pe_tup (pa_cons (pv 3) (pa_cons (pv 5) pa_nil))) pa_nil)) (pe_dget (hu_of hr) (pv 1) pe_str (fun _ _ => rfl))) rfl)))))))), ?_⟩
    walk_at "go"
    have hi : 0 ≤ row % 3 ∧ row % 3 < 3 := by omega
    generalize row % 3 = i at hi ⊢
    refine ⟨log3 hi, ?_⟩
    walk_at "go"
    refine ⟨len3 hi "k" (.inl rfl), ?_⟩
    walk_at "go"
    rename_i p1 h1 p2 h2 p3 h3
    obtain ⟨va0, X0, _⟩ := B.X
    have x1 := Ext.new (o := .lst [.int (row / 3 % 256)]) X0.sU h1
    have s1 := same_upd (o := .lst [.int (row / 3 % 256)]) (none_of_same X0.sU h1)
    have x2 := x1.trans (Ext.new (o := .tup [.str (Str.ofString "k" ++ Str.ofString (toString i)), .ref p1]) x1.vh h2)
    have s2 := same_upd (o := .tup [.str (Str.ofString "k" ++ Str.ofString (toString i)), .ref p1]) (none_of_same x1.vh h2)
    have x3 := x2.trans (Ext.new (o := .lst [.ref p2]) x2.vh h3)
    have s3 := same_upd (o := .lst [.ref p2]) (none_of_same x2.vh h3)
    have dg : Dp K (upd (upd (upd U p1 (.lst [.int (row / 3 % 256)])) p2 (.tup [.str (Str.ofString "k" ++ Str.ofString (toString i)), .ref p1])) p3 (.lst [.ref p2])) (.ref p3) (.list ([(Str.ofString "k" ++ Str.ofString (toString i), [row / 3 % 256])].map gdD)) :=
      .lst (SqL.of upd_same) (.cons (.tup (s3.sqt (SqT.of upd_same)) (.cons (.str _) (.cons (.lst (s3.seq (s2.seq (SqL.of upd_same))) (.cons (.int _) .nil)) .nil))) .nil)
    have B3 := B.ext x3
    have b3 : ∀ b u, H b = some u → (upd (upd (upd H p1 (.lst [.int (row / 3 % 256)])) p2 (.tup [.str (Str.ofString "k" ++ Str.ofString (toString i)), .ref p1])) p3 (.lst [.ref p2])) b = some u := x3.hh
    have hg : ([(Str.ofString "k" ++ Str.ofString (toString i), [row / 3 % 256])] : List (Str × List Int)).length < 1000 := by show 1 < 1000; decide
    have hg2 : ∀ x ∈ ([(Str.ofString "k" ++ Str.ofString (toString i), [row / 3 % 256])] : List (Str × List Int)), x.2.length < 1000 := fun x hx => by
      rw [List.mem_singleton.mp hx]; show 1 < 1000; decide
    have hsh : ∀ d ∈ [PyData.list (([(Str.ofString "k" ++ Str.ofString (toString i), [row / 3 % 256])] : List (Str × List Int)).map gdD)], Sh 3 d := fun d hd => by
      rw [List.mem_singleton.mp hd]
      refine sh_list fun e he => ?_
      rw [List.map_cons, List.map_nil] at he
      rw [List.mem_singleton.mp he]
      refine sh_tuple fun f hf => ?_
      simp only [List.mem_cons, List.not_mem_nil, or_false] at hf
      rcases hf with rfl | rfl
      · exact (sh_str (str3 hi "k" (.inl rfl))).mono (by decide)
      · exact sh_ints _
    generalize ([(Str.ofString "k" ++ Str.ofString (toString i), [row / 3 % 256])] : List (Str × List Int)) = g at dg hg hg2 hsh
    generalize (upd (upd (upd U p1 (.lst [.int (row / 3 % 256)])) p2 (.tup [.str (Str.ofString "k" ++ Str.ofString (toString i)), .ref p1])) p3 (.lst [.ref p2])) = U3 at dg B3 x3
    have e0 : (upd (upd (upd H p1 (.lst [(fun i j => V.int (i % j)) (row / 3) 256])) p2 (.tup [.str (Str.ofString "k" ++ Str.ofString (toString i)), .ref p1])) p3 (.lst [.ref p2])) = (upd (upd (upd H p1 (.lst [.int (row / 3 % 256)])) p2 (.tup [.str (Str.ofString "k" ++ Str.ofString (toString i)), .ref p1])) p3 (.lst [.ref p2])) := rfl
    rw [e0]
    generalize (upd (upd (upd H p1 (.lst [.int (row / 3 % 256)])) p2 (.tup [.str (Str.ofString "k" ++ Str.ofString (toString i)), .ref p1])) p3 (.lst [.ref p2])) = H3 at B3 b3 x3 ⊢
    obtain ⟨va, X, As⟩ := B3.X
    obtain ⟨dx, fg, fp, fd, fs, fh, e1, x4⟩ := X.ob
    obtain ⟨mg1, mp1, md1, ms1, ma1, mh1, e2, d1, d2, d3, d4, d5, d6⟩ := B3.dk
    have hne := B3.ne
    have lg := B.lg
    have lp := B.lp
    have ld := B.ld
    refine iteEq (fun c => ?_) (fun c => ?_)
    · refine ⟨_, rfl, ob, dx, _, rfl, e1, xF_no _ _ _ _ _ _ _ (by decide +kernel) (by decide +kernel) (by decide +kernel) (by decide +kernel) (by decide +kernel) (by decide +kernel) (by decide +kernel), _, rfl, _, rfl, ob, m, va, .ref p3, slot, false, g, U3, rfl, X, dg, hg, hg2, by omega, by omega, fun U4 H4 g4 b4 X4 => ?_⟩
      have e4 := b4 _ _ e2 hne.symm
      have ud4 := g4.keepOut B3.ud (by rw [e2]; exact fun z => by cases z)
      refine ⟨_, rfl, md, _, rfl, DGet.v e4 (mK_g _ _ _ _ _ _ _), _, rfl, _, rfl, mg1, .ref p3, m.gifts, slot, .list (g.map gdD), U4, rfl, d1.to g4.vv, dg.to g4.vv, g4.vh, by omega, fun v5 U5 H5 x5 dv5 => ?_⟩
      have e5 := x5.hh _ _ e4
      refine ⟨_, rfl, md, _, rfl, DPut.k (k := Sum.inr "gifts") e5 (mK_len _ _ _ _ _ _ _), ?_⟩
      rw [mK_pg]
      have X4' : XAt A.CExchange K U4 H4 ob { m with gifts := (slot, [.list (g.map gdD)]) :: othR slot m.gifts } va := X4
      have vv := g4.vv.trans x5.vv
      have ud5 := x5.keepOut ud4 (by rw [e4]; exact fun z => by cases z)
      exact q U5 _ { m with gifts := (slot, [.list (g.map gdD)]) :: othR slot m.gifts } S rs hv (fun b u e hb hm => by rw [upd_ne hm]; exact x5.hh _ _ (b4 b u (b3 b u e) hb))
        ⟨⟨va, (X4'.ext x5).poke ud5 hne, As.to vv⟩, B.snt, B.hvv, B.oS, shc hsh (sho B.gg), B.gp, B.gd, B.oo, ud5, ⟨_, _, _, _, _, _, upd_same, dv5, d2.to vv, d3.to vv, d4.to vv, d5.to vv, d6.to vv⟩, Nat.succ_le_succ (oth_le lg), Nat.le_succ_of_le lp, Nat.le_succ_of_le ld, Nat.le_succ_of_le B.lS, Nat.le_succ_of_le B.lr⟩
    walk_at "go"
    refine iteEq (fun c2 => ?_) (fun c2 => ?_)
    · refine ⟨_, rfl, ob, dx, _, rfl, e1, xF_no _ _ _ _ _ _ _ (by decide +kernel) (by decide +kernel) (by decide +kernel) (by decide +kernel) (by decide +kernel) (by decide +kernel) (by decide +kernel), _, rfl, _, rfl, ob, m, va, .ref p3, slot, true, g, U3, rfl, X, dg, hg, hg2, by omega, by omega, fun U4 H4 g4 b4 X4 => ?_⟩
      have e4 := b4 _ _ e2 hne.symm
      have ud4 := g4.keepOut B3.ud (by rw [e2]; exact fun z => by cases z)
      refine ⟨_, rfl, md, _, rfl, DGet.v e4 (mK_p _ _ _ _ _ _ _), _, rfl, _, rfl, mp1, .ref p3, m.primary, slot, .list (g.map gdD), U4, rfl, d2.to g4.vv, dg.to g4.vv, g4.vh, by omega, fun v5 U5 H5 x5 dv5 => ?_⟩
      have e5 := x5.hh _ _ e4
      refine ⟨_, rfl, md, _, rfl, DPut.k (k := Sum.inr "primary") e5 (mK_len _ _ _ _ _ _ _), ?_⟩
      rw [mK_pp]
      have X4' : XAt A.CExchange K U4 H4 ob { m with primary := (slot, [.list (g.map gdD)]) :: othR slot m.primary } va := X4
      have vv := g4.vv.trans x5.vv
      have ud5 := x5.keepOut ud4 (by rw [e4]; exact fun z => by cases z)
      exact q U5 _ { m with primary := (slot, [.list (g.map gdD)]) :: othR slot m.primary } S rs hv (fun b u e hb hm => by rw [upd_ne hm]; exact x5.hh _ _ (b4 b u (b3 b u e) hb))
        ⟨⟨va, (X4'.ext x5).poke ud5 hne, As.to vv⟩, B.snt, B.hvv, B.oS, B.gg, shc hsh (sho B.gp), B.gd, B.oo, ud5, ⟨_, _, _, _, _, _, upd_same, d1.to vv, dv5, d3.to vv, d4.to vv, d5.to vv, d6.to vv⟩, Nat.le_succ_of_le lg, Nat.succ_le_succ (oth_le lp), Nat.le_succ_of_le ld, Nat.le_succ_of_le B.lS, Nat.le_succ_of_le B.lr⟩
    · refine ⟨_, rfl, ob, dx, _, rfl, e1, xF_no _ _ _ _ _ _ _ (by decide +kernel) (by decide +kernel) (by decide +kernel) (by decide +kernel) (by decide +kernel) (by decide +kernel) (by decide +kernel), _, rfl, _, rfl, ob, m, va, .ref p3, slot, g, U3, rfl, X, dg, hg, hg2, by omega, fun U4 H4 g4 b4 X4 => ?_⟩
      have e4 := b4 _ _ e2 hne.symm
      have ud4 := g4.keepOut B3.ud (by rw [e2]; exact fun z => by cases z)
      refine ⟨_, rfl, _, rfl, len_line (by show 2 ≤ 100000; decide), fun p5 h5 => ⟨len_line (by show 1 ≤ 100000; decide), fun p6 h6 => ?_⟩⟩
      have x5 := Ext.new (o := .tup [.int slot, .ref p3]) g4.vh h5
      have s5 := same_upd (o := .tup [.int slot, .ref p3]) (none_of_same g4.vh h5)
      have x6 := x5.trans (Ext.new (o := .lst [.ref p5]) x5.vh h6)
      have s6 := same_upd (o := .lst [.ref p5]) (none_of_same x5.vh h6)
      have hp : Dp K _ (.ref p5) (rwD (slot, [.list (g.map gdD)])) := .tup (SqT.of upd_same) (.cons (.int _) (.cons ((dg.to g4.vv).to s5) .nil))
      have hp6 := hp.to s6
      obtain ⟨ad, zd, rfl, qd, dd⟩ := d3
      have hzd : zd.length = m.drags.length := by rw [dpall_len dd, List.length_map]
      have qd6 := x6.vh _ _ (x6.vv _ _ (g4.vv _ _ qd))
      have e6 := x6.hh _ _ e4
      refine ⟨_, rfl, md, _, rfl, DGet.v e6 (mK_d _ _ _ _ _ _ _), p6, ad, _, _, rfl, rfl, upd_same, qd6, ?_, fun r hr => ?_⟩
      · rw [sizeLine_eq]; show 1 + zd.length ≤ _; omega
      have x7 := x6.trans (Ext.new (o := .lst ([.ref p5] ++ zd)) x6.vh hr)
      have s7 := same_upd (o := .lst ([.ref p5] ++ zd)) (none_of_same x6.vh hr)
      have e7 := x7.hh _ _ e4
      refine ⟨_, rfl, md, _, rfl, DPut.k (k := Sum.inr "drags") e7 (mK_len _ _ _ _ _ _ _), ?_⟩
      rw [mK_pd]
      have vv := g4.vv.trans x7.vv
      have ud7 := x7.keepOut ud4 (by rw [e4]; exact fun z => by cases z)
      exact q _ _ { m with drags := (slot, [.list (g.map gdD)]) :: m.drags } S rs hv (fun b u e hb hm => by rw [upd_ne hm]; exact x7.hh _ _ (b4 b u (b3 b u e) hb))
        ⟨⟨va, (X4.ext x7).poke ud7 hne, As.to vv⟩, B.snt, B.hvv, B.oS, B.gg, B.gp, shc hsh B.gd, B.oo, ud7, ⟨_, _, _, _, _, _, upd_same, d1.to vv, d2.to vv, ⟨r, _, rfl, upd_same, .cons (hp6.to s7) (dd.to vv)⟩, d4.to vv, d5.to vv, d6.to vv⟩, Nat.le_succ_of_le lg, Nat.le_succ_of_le lp, Nat.succ_le_succ ld, Nat.le_succ_of_le B.lS, Nat.le_succ_of_le B.lr⟩
/-! ### the law's hover and ask -/
theorem filterMap_if {α β : Type} (g : α → β) {p : α → Bool} (xs : List α) : (xs.filterMap fun r => if p r = true then some (g r) else none) = (xs.filter p).map g := by
  induction xs with
  | nil => rfl
  | cons r t ih =>
    by_cases c : p r = true
    · rw [List.filterMap_cons_some (by rw [if_pos c]), List.filter_cons_of_pos c, List.map_cons, ih]
    · rw [List.filterMap_cons_none (by rw [if_neg c]), List.filter_cons_of_neg c, ih]
theorem sc__law_hover : FnScope ["exchange", "model", "slot", "row", "target"] ["exchange", "model", "slot", "row"] (defScope s__law_hover) := ⟨rfl, rfl, rfl, by decide +kernel, rfl, by decide +kernel, by decide +kernel⟩
theorem ok__law_hover (T : Txt K mg A) : FnOk P w K mg base CX0 2 A.f_law_hover A.d_law_hover ["exchange", "model", "slot", "row"] (sp_deed A.CExchange A.CAsked K (fun _ s r => [.int s, .int r]) (fun _ => True)) := by
  refine T.F_law_hover.ok sc__law_hover (fun vs H Q E h => ?_) (fun cdv Ar outer s H vs Q E hr h => ?_)
  · obtain ⟨_, _, _, _, _, _, _, _, _, _, _, rfl, _⟩ := h
    rfl
  · obtain ⟨ob, md, deed, slot, row, n, m, S, rs, hv, U, rfl, hok, B, hn, q⟩ := h
    obtain ⟨va0, X0, _⟩ := B.X
    refine ⟨_, (pss_cons (ps_set (i := 4) sc__law_hover.nd rfl (Or.inl rfl) pe_non)
      (C8.pss_cut (ps_if (pt_cmpR op_gt (pe_op op_mod (pe_callTy call_int1 (by rfl) T.int (by decide +kernel) (pa_cons (pv 3) pa_nil)) pe_int) pe_int (nomark _))
      (pss_one (ps_set (i := 4) sc__law_hover.nd rfl (Or.inl rfl) (pe_tup (pa_cons (pv 2) (pa_cons (pe_op op_add (pe_op op_mod (pe_callTy call_int1 (by rfl) T.int (by decide +kernel) (pa_cons (pe_op op_fdiv (pv 3) pe_int) pa_nil)) pe_int) pe_int) pa_nil)))))
      pss_nil)
      (pss_cons (ps_expr (pe_meth (pv 0) T.clExchange T.mExchange_hover (ok_Exchange_hover T) (hr.mono (by decide)) T.bExchange_hover .nil pass0 (pa_cons (pv 4) pa_nil)))
      (pss_one (ps_dput (hu_of hr) (pv 1) pe_str (pv 4) rfl))))), ?_⟩
    refine ⟨fun σ' H' => ∃ (vt : V) (hv' : Option (Int × Int)) (U' : Hp), σ' = [some (.ref ob), some (.ref md), some (.int slot), some (.int row), some vt] ∧ Ext U H U' H' ∧ Dp K U' vt (hovD hv'), ?_, ?_⟩
    · walk_at "go"
      refine iteP (fun c => ?_) (fun c => ?_)
      · walk_at "go"
        rename_i p hp
        exact ⟨_, some (slot, row / 4 % 5 + 2), _, rfl, Ext.new X0.sU hp, .tup (SqT.of upd_same) (.cons (.int _) (.cons (.int _) .nil))⟩
      · exact ⟨_, none, U, rfl, Ext.refl X0.sU, .non⟩
    rintro σ' H3 ⟨vt, hv', U3, rfl, x3, dt⟩
    have B3 := B.ext x3
    obtain ⟨va, X, As⟩ := B3.X
    obtain ⟨dx, fg, fp, fd, fs, fh, e1, x4⟩ := X.ob
    obtain ⟨mg1, mp1, md1, ms1, ma1, mh1, e2, d1, d2, d3, d4, d5, d6⟩ := B3.dk
    have hne := B3.ne
    refine ⟨_, rfl, ob, dx, _, rfl, e1, xF_no _ _ _ _ _ _ _ (by decide +kernel) (by decide +kernel) (by decide +kernel) (by decide +kernel) (by decide +kernel) (by decide +kernel) (by decide +kernel), _, rfl, ob, m, va, vt, hovD hv', U3, rfl, X, dt, fun H4 b4 _ X4 => ?_⟩
    have e4 := b4 _ _ e2 hne.symm
    refine ⟨_, rfl, _, rfl, md, _, rfl, DPut.k (k := Sum.inr "hovered") e4 (mK_len _ _ _ _ _ _ _), ?_⟩
    rw [mK_ph]
    exact q U3 _ { m with hov := hovD hv' } S rs hv' (fun b u e hb hm => by rw [upd_ne hm]; exact b4 b u (x3.hh _ _ e) hb)
      ⟨⟨va, X4.poke B3.ud hne, As⟩, B.snt, rfl, B.oS, B.gg, B.gp, B.gd, B.oo, B3.ud, ⟨_, _, _, _, _, _, upd_same, d1, d2, d3, d4, d5, dt⟩, Nat.le_succ_of_le B.lg, Nat.le_succ_of_le B.lp, Nat.le_succ_of_le B.ld, Nat.le_succ_of_le B.lS, Nat.le_succ_of_le B.lr⟩
theorem sc__law_ask : FnScope ["exchange", "model", "deed", "slot", "row", "capture", "output", "one"] ["exchange", "model", "deed", "slot", "row"] (defScope s__law_ask) := ⟨rfl, rfl, rfl, by decide +kernel, rfl, by decide +kernel, by decide +kernel⟩
theorem ok__law_ask (T : Txt K mg A) : FnOk P w K mg base CX0 4 A.f_law_ask A.d_law_ask ["exchange", "model", "deed", "slot", "row"] (sp_deed A.CExchange A.CAsked K (fun d s r => [.int d, .int s, .int r]) (fun _ => True)) := by
  refine T.F_law_ask.ok sc__law_ask (fun vs H Q E h => ?_) (fun cdv Ar outer s H vs Q E hr h => ?_)
  · obtain ⟨_, _, _, _, _, _, _, _, _, _, _, rfl, _⟩ := h
    rfl
  · obtain ⟨ob, md, deed, slot, row, n, m, S, rs, hv, U, rfl, hok, B, hn, q⟩ := h
    obtain ⟨va0, X0, _⟩ := B.X
    refine ⟨_, (pss_cons (ps_set (i := 5) sc__law_ask.nd rfl (Or.inr rfl) (pe_op op_add (pe_op op_mod (pe_callTy call_int1 (by rfl) T.int (by decide +kernel) (pa_cons (pv 4) pa_nil)) pe_int) pe_int))
      (pss_one (ps_if (pt_cmpR op_eq (pv 2) pe_int (nomark _))
      (pss_cons (ps_set (i := 6) sc__law_ask.nd rfl (Or.inl rfl) pe_non)
      (C8.pss_cut (ps_if (pt_cmpR op_gt (pe_op op_mod (pe_callTy call_int1 (by rfl) T.int (by decide +kernel) (pa_cons (pe_op op_fdiv (pv 4) pe_int) pa_nil)) pe_int) pe_int (nomark _))
      (pss_one (ps_set (i := 6) sc__law_ask.nd rfl (Or.inl rfl) (pe_op op_mod (pe_callTy call_int1 (by rfl) T.int (by decide +kernel) (pa_cons (pe_op op_fdiv (pv 4) pe_int) pa_nil)) pe_int)))
      pss_nil)
      (pss_cons (ps_expr (pe_meth (pv 0) T.clExchange T.mExchange_ask (ok_Exchange_ask T) (hr.mono (by decide)) T.bExchange_ask .nil pass0 (pa_cons (pv 3) (pa_cons (pv 5) (pa_cons (pv 6) (pa_cons (pe_op op_sub (pe_op op_mod (pe_callTy call_int1 (by rfl) T.int (by decide +kernel) (pa_cons (pe_op op_fdiv (pv 4) pe_int) pa_nil)) pe_int) pe_int) (pa_cons pe_int (pa_cons pe_int (pa_cons pe_int pa_nil)))))))))
      (pss_cons (ps_dput (hu_of hr) (pv 1) pe_str (pe_op op_add (pe_dget (hu_of hr) (pv 1) pe_str (fun _ _ => rfl)) pe_int) rfl)
      (pss_one (ps_dput (hu_of hr) (pv 1) pe_str (pe_op op_cat (pe_dget (hu_of hr) (pv 1) pe_str (fun _ _ => rfl)) (pe_lst (pa_cons (pe_lst (pa_cons (pe_dget (hu_of hr) (pv 1) pe_str (fun _ _ => rfl)) (pa_cons (pv 3) (pa_cons (pv 5) (pa_cons (pv 6) (pa_cons (pe_op op_sub (pe_op op_mod (pe_callTy call_int1 (by rfl) T.int (by decide +kernel) (pa_cons (pe_op op_fdiv (pv 4) pe_int) pa_nil)) pe_int) pe_int) (pa_cons pe_int (pa_cons pe_int (pa_cons pe_int pa_nil))))))))) pa_nil))) rfl))))))
      (pss_cons (ps_expr (pe_meth (pv 0) T.clExchange T.mExchange_withdraw (ok_Exchange_withdraw T) (hr.mono (by decide)) T.bExchange_withdraw .nil pass0 (pa_cons (pv 3) (pa_cons (pv 5) pa_nil))))
      (pss_one (ps_dput (hu_of hr) (pv 1) pe_str (pe_lc (own := [("one", 7)]) (g := (gName 7)) rfl sc__law_ask.nd (pi_list (pe_dget (hu_of hr) (pv 1) pe_str (fun _ _ => rfl))) (blkOk_by (own := [("one", 7)]) (N := ["exchange", "model", "deed", "slot", "row", "capture", "output", "one"]) (sc := defScope s__law_ask) (by decide +kernel)) (fun _ _ _ _ _ => (pg_name (i := 7) sc__law_ask.nd rfl (Or.inl rfl))) (fun _ _ _ _ _ => (pts_one (PW.pt (pw_or (pt_cmpR op_ne (pe_ix (r := rIxL K) ix_list (pv 7) pe_int (fun _ _ => rfl)) (pv 3) (nomark _)) (pw_or1 (pt_cmpR op_ne (pe_ix (r := rIxL K) ix_list (pv 7) pe_int (fun _ _ => rfl)) (pv 5) (nomark _))))))) (fun _ _ _ _ _ => by exact (pv 7))) rfl)))))), ?_⟩
    have lr := B.lr
    walk_at "go"
    refine iteEq (fun c => ?_) (fun c => ?_)
    · walk_at "go"
      refine ⟨fun σ' H' => ∃ (vo : V) (d : PyData), σ' = [some (.ref ob), some (.ref md), some (.int deed), some (.int slot), some (.int row), some (.int (row % 3 + 50)), some vo, none] ∧ H' = H ∧ (∀ U', Dp K U' vo d) ∧ Sh 1 d, ?_, ?_⟩
      · walk_at "go"
        refine iteP (fun c => ?_) (fun c => ?_)
        · walk_at "go"
          exact ⟨_, .int (row / 3 % 4), rfl, rfl, fun _ => .int _, (sh_int _).mono (by decide)⟩
        · exact ⟨_, .none, rfl, rfl, fun _ => .non, sh_none.mono (by decide)⟩
      rintro σ' H' ⟨vo, d, rfl, rfl, dvo, shd⟩
      generalize row % 3 + 50 = cap
      obtain ⟨va, X, As⟩ := B.X
      obtain ⟨dx, fg, fp, fd, fs, fh, e1, x4⟩ := X.ob
      obtain ⟨mg1, mp1, md1, ms1, ma1, mh1, e2, d1, d2, d3, d4, ⟨aa, zz, rfl, ea, dda⟩, d6⟩ := B.dk
      have hne := B.ne
      have hzz : zz.length = rs.length := by rw [dpall_len dda, List.length_map]
      refine ⟨_, rfl, ob, dx, _, rfl, e1, xF_no _ _ _ _ _ _ _ (by decide +kernel) (by decide +kernel) (by decide +kernel) (by decide +kernel) (by decide +kernel) (by decide +kernel) (by decide +kernel), _, rfl, _, rfl, _, rfl, ?_⟩
      walk_at "go"
      refine ⟨ob, m, va, rs, slot, cap, vo, d, row / 12 % 9 - 4, 1, 2, 3, U, rfl, X, As, dvo U, by omega, fun U4 H4 va4 g4 b4 X4 As4 => ?_⟩
      have e4 := b4 _ _ e2 hne.symm
      have ud4 := g4.keepOut B.ud (by rw [e2]; exact fun z => by cases z)
      refine ⟨_, rfl, md, _, rfl, DGet.v e4 (mK_n _ _ _ _ _ _ _), _, _, rfl, rfl, _, rfl, md, _, rfl, DPut.k (k := Sum.inr "count") e4 (mK_len _ _ _ _ _ _ _), ?_⟩
      rw [mK_pn]
      have X5 := X4.poke (w := .dK (mK mg1 mp1 md1 ms1 (.ref aa) (.int (m.count + 1)) mh1)) ud4 hne
      have e5 : (upd H4 md (.dK (mK mg1 mp1 md1 ms1 (.ref aa) (.int (m.count + 1)) mh1))) md = _ := upd_same
      have b5 : ∀ b u, H' b = some u → b ≠ ob → b ≠ md → (upd H4 md (.dK (mK mg1 mp1 md1 ms1 (.ref aa) (.int (m.count + 1)) mh1))) b = some u := fun b u e hb hm => by rw [upd_ne hm]; exact b4 b u e hb
      generalize upd H4 md (.dK (mK mg1 mp1 md1 ms1 (.ref aa) (.int (m.count + 1)) mh1)) = H5 at X5 e5 b5 ⊢
      have ea5 := X5.sU _ _ (g4.vv _ _ ea)
      refine ⟨_, rfl, md, _, rfl, DGet.v e5 (mK_a _ _ _ _ _ _ _), _, rfl, md, _, rfl, DGet.v e5 (mK_n _ _ _ _ _ _ _), _, rfl, _, rfl, _, rfl, ?_⟩
      walk_at "go"
      rename_i p1 h1 p2 h2
      have x6 : Ext U4 H5 _ _ := Ext.new (o := .lst [.int (m.count + 1), .int slot, .int cap, vo, .int (row / 12 % 9 - 4), .int 1, .int 2, .int 3]) X5.sU h1
      have s6 := same_upd (o := .lst [.int (m.count + 1), .int slot, .int cap, vo, .int (row / 12 % 9 - 4), .int 1, .int 2, .int 3]) (none_of_same X5.sU h1)
      have x7 := x6.trans (Ext.new (o := .lst [.ref p1]) x6.vh h2)
      have s7 := same_upd (o := .lst [.ref p1]) (none_of_same x6.vh h2)
      have hp : Dp K (upd U4 p1 (.lst [.int (m.count + 1), .int slot, .int cap, vo, .int (row / 12 % 9 - 4), .int 1, .int 2, .int 3])) (.ref p1) (arD ⟨m.count + 1, slot, cap, d, row / 12 % 9 - 4, 1, 2, 3⟩) := .lst (SqL.of upd_same) (.cons (.int _) (.cons (.int _) (.cons (.int _) (.cons (dvo _) (.cons (.int _) (.cons (.int _) (.cons (.int _) (.cons (.int _) .nil))))))))
      refine ⟨aa, p2, _, _, rfl, rfl, x7.hh _ _ ea5, upd_same, ?_, fun r hr => ?_⟩
      · rw [sizeLine_eq]; show zz.length + 1 ≤ _; omega
      have x8 := x7.trans (Ext.new (o := .lst (zz ++ [.ref p1])) x7.vh hr)
      have s8 := same_upd (o := .lst (zz ++ [.ref p1])) (none_of_same x7.vh hr)
      have e8 := x8.hh _ _ e5
      refine ⟨_, rfl, md, _, rfl, DPut.k (k := Sum.inr "asked") e8 (mK_len _ _ _ _ _ _ _), ?_⟩
      rw [mK_pa]
      have As5 : AsAt A.CAsked K U4 va4 (rs ++ [⟨m.count + 1, slot, cap, d, row / 12 % 9 - 4, 1, 2, 3⟩]) := As4
      have vv := g4.vv.trans x8.vv
      have ud8 := x8.keepOut ud4 (by rw [e5]; exact fun z => by cases z)
      exact q _ _ { m with count := m.count + 1 } S (rs ++ [⟨m.count + 1, slot, cap, d, row / 12 % 9 - 4, 1, 2, 3⟩]) hv (fun b u e hb hm => by rw [upd_ne hm]; exact x8.hh _ _ (b5 b u e hb hm))
        ⟨⟨va4, (X5.ext x8).poke ud8 hne, As5.to x8.vv⟩, B.snt, B.hvv, B.oS, B.gg, B.gp, B.gd, fun r hr => by
          rcases List.mem_append.mp hr with hr | hr
          · exact B.oo r hr
          · rw [List.mem_singleton.mp hr]; exact shd, ud8, ⟨_, _, _, _, _, _, upd_same, d1.to vv, d2.to vv, d3.to vv, d4.to vv, ⟨r, _, rfl, upd_same, by rw [List.map_append]; exact dpall_app (dda.to vv) (.cons ((hp.to s7).to s8) .nil)⟩, d6.to vv⟩, Nat.le_succ_of_le B.lg, Nat.le_succ_of_le B.lp, Nat.le_succ_of_le B.ld, Nat.le_succ_of_le B.lS, by rw [List.length_append]; exact Nat.succ_le_succ lr⟩
    · obtain ⟨va, X, As⟩ := B.X
      obtain ⟨dx, fg, fp, fd, fs, fh, e1, x4⟩ := X.ob
      obtain ⟨mg1, mp1, md1, ms1, ma1, mh1, e2, d1, d2, d3, d4, ⟨aa, zz, rfl, ea, dda⟩, d6⟩ := B.dk
      have hne := B.ne
      have hzz : zz.length = rs.length := by rw [dpall_len dda, List.length_map]
      refine ⟨_, rfl, ob, dx, _, rfl, e1, xF_no _ _ _ _ _ _ _ (by decide +kernel) (by decide +kernel) (by decide +kernel) (by decide +kernel) (by decide +kernel) (by decide +kernel) (by decide +kernel), _, rfl, _, rfl, ob, m, va, rs, slot, row % 3 + 50, U, rfl, X, As, by omega, fun U4 H4 va4 g4 b4 X4 As4 => ?_⟩
      have e4 := b4 _ _ e2 hne.symm
      have ud4 := g4.keepOut B.ud (by rw [e2]; exact fun z => by cases z)
      have dda4 := dda.to g4.vv
      have ea4 := g4.vh _ _ (g4.vv _ _ ea)
      refine ⟨_, rfl, md, _, rfl, DGet.v e4 (mK_a _ _ _ _ _ _ _), aa, rfl, ⟨_, SqL.of ea4⟩, fun D hD => ?_⟩
      refine lc_dp (walk_list (K := K) (a := aa) (xs := zz)) (K := K) (V0 := U4) (H0 := H4) (fun i => (rs[i]?).bind fun r => if (!decide (r.s = slot ∧ r.c = row % 3 + 50)) = true then some (arD r) else none) _ rfl g4.vh hD (by omega) (fun H' s => s.seq (SqL.of ea4)) (fun i x H H' y => y.1) ?_ ?_
      · rintro k z U5 H5 hn' xx ⟨_, hz⟩ Qy Qn hy hno
        obtain ⟨dd, hd, dv⟩ := dpall_get dda4 hz
        rw [List.getElem?_map] at hd
        obtain ⟨r, hr, rfl⟩ := Option.map_eq_some_iff.mp hd
        have dv5 := dv.to xx.vv
        obtain ⟨pt, ws, rfl, qw, dw⟩ := dp_list dv5
        cases dw with | cons c1 dw => cases dw with | cons c2 dw => cases dw with | cons c3 dw =>
        cases c1; cases c2; cases c3
        have qw' := xx.vh.seq qw
        refine ⟨rfl, _, rfl, pt, _, _, _, rfl, rfl, qw', atI_nat (j := 1) rfl, _, rfl, rfl, _, rfl, ?_⟩
        have hno' : (r.s = slot ∧ r.c = row % 3 + 50) → Qn H5 := fun cc => hno (by rw [hr]; show (if (!decide (r.s = slot ∧ r.c = row % 3 + 50)) = true then some (arD r) else none) = none; rw [decide_eq_true cc]; rfl) _ _ (Ext.refl xx.vh)
        have hy' : ¬ (r.s = slot ∧ r.c = row % 3 + 50) → Qy (.ref pt) H5 := fun cc => hy (arD r) _ _ _ (by rw [hr]; show (if (!decide (r.s = slot ∧ r.c = row % 3 + 50)) = true then some (arD r) else none) = some (arD r); rw [decide_eq_false cc]; rfl) (Ext.refl xx.vh) dv5
        rw [dec_int]
        by_cases c1 : r.s = slot
        · rw [show (r.s == slot) = true from beq_iff_eq.mpr c1]
          refine if_f (b := !true) rfl ?_
          refine ⟨_, rfl, pt, _, _, _, rfl, rfl, qw', atI_nat (j := 2) rfl, _, rfl, rfl, _, rfl, ?_⟩
          by_cases c2 : r.c = row % 3 + 50
          · exact if_f (by rw [show decide (V.int r.c = V.int (row % 3 + 50)) = true from decide_eq_true (by rw [c2])]; rfl) (hno' ⟨c1, c2⟩)
          · exact if_t (by rw [show decide (V.int r.c = V.int (row % 3 + 50)) = false from decide_eq_false (fun z => c2 (by injection z))]; rfl) ⟨_, rfl, hy' fun z => c2 z.2⟩
        · rw [show (r.s == slot) = false from beq_eq_false_iff_ne.mpr c1]
          refine if_t (b := !false) rfl ?_
          exact if_t rfl ⟨_, rfl, hy' fun z => c1 z.1⟩
      · rintro U5 H5 ws xx uD dA dl
        rw [fm_fmap (fun r : Ark => if (!decide (r.s = slot ∧ r.c = row % 3 + 50)) = true then some (arD r) else none) rs _ hzz _ (fun i x h => by rw [h]; rfl), filterMap_if arD] at dA
        have e5 := xx.hh _ _ e4
        have X5 := X4.ext xx
        have As5 : AsAt A.CAsked K U5 va4 (rs.filter fun r => !decide (r.s = slot ∧ r.c = row % 3 + 50)) := AsAt.to As4 xx.vv
        have ud5 := xx.keepOut ud4 (by rw [e4]; exact fun z => by cases z)
        refine ⟨_, rfl, md, _, rfl, DPut.k (k := Sum.inr "asked") e5 (mK_len _ _ _ _ _ _ _), ?_⟩
        rw [mK_pa]
        have vv := g4.vv.trans xx.vv
        exact q _ _ m S (rs.filter fun r => !decide (r.s = slot ∧ r.c = row % 3 + 50)) hv (fun b u e hb hm => by rw [upd_ne hm]; exact xx.hh _ _ (b4 b u e hb))
          ⟨⟨va4, X5.poke ud5 hne, As5⟩, B.snt, B.hvv, B.oS, B.gg, B.gp, B.gd, fun r hr => B.oo r (List.mem_filter.mp hr).1, ud5, ⟨_, _, _, _, _, _, upd_same, d1.to vv, d2.to vv, d3.to vv, d4.to vv, ⟨D, ws, rfl, uD, dA⟩, d6.to vv⟩, Nat.le_succ_of_le B.lg, Nat.le_succ_of_le B.lp, Nat.le_succ_of_le B.ld, Nat.le_succ_of_le B.lS, Nat.le_succ_of_le (Nat.le_trans (List.length_filter_le _ _) lr)⟩
/-! ### the law's end and send -/
theorem ne_rw {x y : Int} : (!decide (V.int x = V.int y)) = !(x == y) := by rw [dec_int]
theorem sc__law_end : FnScope ["exchange", "model", "deed", "slot", "row"] ["exchange", "model", "deed", "slot"] (defScope s__law_end) := ⟨rfl, rfl, rfl, by decide +kernel, rfl, by decide +kernel, by decide +kernel⟩
theorem ok__law_end (T : Txt K mg A) : FnOk P w K mg base CX0 3 A.f_law_end A.d_law_end ["exchange", "model", "deed", "slot"] (sp_deed A.CExchange A.CAsked K (fun d s _ => [.int d, .int s]) (fun d => 7 ≤ d ∧ d < 9)) := by
  refine T.F_law_end.ok sc__law_end (fun vs H Q E h => ?_) (fun cdv Ar outer s H vs Q E hr h => ?_)
  · obtain ⟨_, _, _, _, _, _, _, _, _, _, _, rfl, _⟩ := h
    rfl
  · obtain ⟨ob, md, deed, slot, row, n, m, S, rs, hv, U, rfl, hok, B, hn, q⟩ := h
    obtain ⟨va, X, As⟩ := B.X
    obtain ⟨dx, fg, fp, fd, fs, fh, e1, x4⟩ := X.ob
    obtain ⟨mg1, mp1, md1, ms1, ma1, mh1, e2, d1, d2, d3, d4, d5, d6⟩ := B.dk
    have hne := B.ne
    have lg := B.lg
    have lp := B.lp
    have ld := B.ld
    have lS := B.lS
    have lr := B.lr
    have lsn : m.sent.length = S.length := by rw [B.snt, List.length_map]
    refine ⟨_, (pss_one (ps_if (pt_cmpR op_eq (pv 2) pe_int (nomark _))
      (pss_cons (ps_expr (pe_meth (pv 0) T.clExchange T.mExchange_ended (ok_Exchange_ended T) (hr.mono (by decide)) T.bExchange_ended .nil pass0 (pa_cons (pv 3) pa_nil)))
      (pss_cons (ps_dput (hu_of hr) (pv 1) pe_str (pe_lc (own := [("row", 4)]) (g := (gName 4)) rfl sc__law_end.nd (pi_list (pe_dget (hu_of hr) (pv 1) pe_str (fun _ _ => rfl))) (blkOk_by (own := [("row", 4)]) (N := ["exchange", "model", "deed", "slot", "row"]) (sc := defScope s__law_end) (by decide +kernel)) (fun _ _ _ _ _ => (pg_name (i := 4) sc__law_end.nd rfl (Or.inl rfl))) (fun _ _ _ _ _ => (pts_one (pt_cmpR op_ne (pe_ix (r := rIxT K) ix_tup (pv 4) pe_int (fun _ _ => rfl)) (pv 3) (nomark _)))) (fun _ _ _ _ _ => by exact (pv 4))) rfl)
      (pss_cons (ps_dput (hu_of hr) (pv 1) pe_str (pe_lc (own := [("row", 4)]) (g := (gName 4)) rfl sc__law_end.nd (pi_list (pe_dget (hu_of hr) (pv 1) pe_str (fun _ _ => rfl))) (blkOk_by (own := [("row", 4)]) (N := ["exchange", "model", "deed", "slot", "row"]) (sc := defScope s__law_end) (by decide +kernel)) (fun _ _ _ _ _ => (pg_name (i := 4) sc__law_end.nd rfl (Or.inl rfl))) (fun _ _ _ _ _ => (pts_one (pt_cmpR op_ne (pe_ix (r := rIxT K) ix_tup (pv 4) pe_int (fun _ _ => rfl)) (pv 3) (nomark _)))) (fun _ _ _ _ _ => by exact (pv 4))) rfl)
      (pss_cons (ps_dput (hu_of hr) (pv 1) pe_str (pe_lc (own := [("row", 4)]) (g := (gName 4)) rfl sc__law_end.nd (pi_list (pe_dget (hu_of hr) (pv 1) pe_str (fun _ _ => rfl))) (blkOk_by (own := [("row", 4)]) (N := ["exchange", "model", "deed", "slot", "row"]) (sc := defScope s__law_end) (by decide +kernel)) (fun _ _ _ _ _ => (pg_name (i := 4) sc__law_end.nd rfl (Or.inl rfl))) (fun _ _ _ _ _ => (pts_one (pt_cmpR op_ne (pe_ix (r := rIxL K) ix_list (pv 4) pe_int (fun _ _ => rfl)) (pv 3) (nomark _)))) (fun _ _ _ _ _ => by exact (pv 4))) rfl)
      (pss_one (ps_if (PW.pt (pw_and (pt_cmpR op_notN (pe_dget (hu_of hr) (pv 1) pe_str (fun _ _ => rfl)) pe_non (nomark _)) (pw_and1 (pt_cmpR op_eq (pe_ix (r := rIxT K) ix_tup (pe_dget (hu_of hr) (pv 1) pe_str (fun _ _ => rfl)) pe_int (fun _ _ => rfl)) (pv 3) (nomark _)))))
      (pss_one (ps_dput (hu_of hr) (pv 1) pe_str pe_non rfl))
      pss_nil))))))
      (pss_one (ps_if (pt_cmpR op_eq (pv 2) pe_int (nomark _))
      (pss_cons (ps_expr (pe_meth (pv 0) T.clExchange T.mExchange_relabelled (ok_Exchange_relabelled T) (hr.mono (by decide)) T.bExchange_relabelled .nil pass0 (pa_cons (pv 3) pa_nil)))
      (pss_cons (ps_dput (hu_of hr) (pv 1) pe_str (pe_lc (own := [("row", 4)]) (g := (gName 4)) rfl sc__law_end.nd (pi_list (pe_dget (hu_of hr) (pv 1) pe_str (fun _ _ => rfl))) (blkOk_by (own := [("row", 4)]) (N := ["exchange", "model", "deed", "slot", "row"]) (sc := defScope s__law_end) (by decide +kernel)) (fun _ _ _ _ _ => (pg_name (i := 4) sc__law_end.nd rfl (Or.inl rfl))) (fun _ _ _ _ _ => (pts_one (pt_cmpR op_ne (pe_ix (r := rIxT K) ix_tup (pv 4) pe_int (fun _ _ => rfl)) (pv 3) (nomark _)))) (fun _ _ _ _ _ => by exact (pv 4))) rfl)
      (pss_one (ps_dput (hu_of hr) (pv 1) pe_str (pe_lc (own := [("row", 4)]) (g := (gName 4)) rfl sc__law_end.nd (pi_list (pe_dget (hu_of hr) (pv 1) pe_str (fun _ _ => rfl))) (blkOk_by (own := [("row", 4)]) (N := ["exchange", "model", "deed", "slot", "row"]) (sc := defScope s__law_end) (by decide +kernel)) (fun _ _ _ _ _ => (pg_name (i := 4) sc__law_end.nd rfl (Or.inl rfl))) (fun _ _ _ _ _ => (pts_one (pt_cmpR op_ne (pe_ix (r := rIxT K) ix_tup (pv 4) pe_int (fun _ _ => rfl)) (pv 3) (nomark _)))) (fun _ _ _ _ _ => by exact (pv 4))) rfl))))
      pss_nil)))), ?_⟩
    walk_at "go"
    refine iteEq (fun c => ?_) (fun c => ?_)
    · refine ⟨_, rfl, ob, dx, _, rfl, e1, xF_no _ _ _ _ _ _ _ (by decide +kernel) (by decide +kernel) (by decide +kernel) (by decide +kernel) (by decide +kernel) (by decide +kernel) (by decide +kernel), _, rfl, ob, m, va, rs, slot, hv, U, rfl, X, As, by omega, B.hvv, fun U1 H1 va1 g1 b1' X1 As1' => ?_⟩
      have As1 : AsAt A.CAsked K U1 va1 (rs.filter fun r => !decide (r.s = slot)) := As1'
      have e3 := b1' _ _ e2 hne.symm
      have e1 := e3
      have ud1 := g1.keepOut B.ud (by rw [e2]; exact fun z => by cases z)
      have b1 : ∀ b u, H b = some u → b ≠ ob → b ≠ md → H1 b = some u := fun b u e hb _ => b1' b u e hb
      have v1 := g1.vv
      obtain ⟨ax1, zx1, rfl, qx1, dd1⟩ := dp_list (d3.dp.to v1)
      have hz1 : zx1.length = (m.drags).length := by rw [dpall_len dd1, List.length_map]
      have sU1 := X1.sU
      have qs1 := sU1.seq qx1
      refine ⟨_, rfl, md, _, rfl, DGet.v e1 (mK_d _ _ _ _ _ _ _), ax1, rfl, ⟨_, qs1⟩, fun D1 hD1 => ?_⟩
      refine lc_dp (walk_list (K := K) (a := ax1) (xs := zx1)) (K := K) (V0 := U1) (H0 := H1) (fun i => ((m.drags)[i]?).bind fun r => if r.1 ≠ slot then some (rwD r) else none) _ rfl sU1 hD1 (by omega) (fun H' s => s.seq qs1) (fun i x H H' y => y.1) ?_ ?_
      · rintro k z Uz Hz hn' xx ⟨_, hz⟩ Qy Qn hy hno
        obtain ⟨d, hd, dv⟩ := dpall_get dd1 hz
        rw [List.getElem?_map] at hd
        obtain ⟨r, hr, rfl⟩ := Option.map_eq_some_iff.mp hd
        have dvz := dv.to xx.vv
        obtain ⟨pt, ws, rfl, qw⟩ := oth_row xx.vh dvz
        refine ⟨rfl, _, rfl, pt, _, _, _, rfl, rfl, qw, atI_nat (j := 0) rfl, _, rfl, rfl, _, rfl, ?_⟩
        rw [dec_int]
        by_cases c : r.1 = slot
        · rw [show (r.1 == slot) = true from beq_iff_eq.mpr c]
          exact if_f (b := !true) rfl (hno (by rw [hr]; exact if_neg (fun n => n c)) _ _ (Ext.refl xx.vh))
        · rw [show (r.1 == slot) = false from beq_eq_false_iff_ne.mpr c]
          exact if_t (b := !false) rfl ⟨_, rfl, hy (rwD r) _ _ _ (by rw [hr]; exact if_pos c) (Ext.refl xx.vh) dvz⟩
      rintro U2 G1 ws1 xx1 uD1 dA1 dl1
      rw [fm_fmap (fun r => if r.1 ≠ slot then some (rwD r) else none) (m.drags) _ hz1 _ (fun i x h => by rw [h]; rfl), filterMap_oth] at dA1
      have n1 : LsD K U2 (.ref D1) ((othR slot (m.drags)).map rwD) := ⟨D1, ws1, rfl, uD1, dA1⟩
      have eg1 := xx1.hh _ _ e1
      have ud2 := xx1.keepOut ud1 (by rw [e1]; exact fun z => by cases z)
      refine ⟨_, rfl, md, _, rfl, DPut.k (k := Sum.inr "drags") eg1 (mK_len _ _ _ _ _ _ _), ?_⟩
      rw [mK_pd]
      have X2 := (X1.ext xx1).poke (w := .dK (mK mg1 mp1 (.ref D1) ms1 ma1 (.int m.count) mh1)) ud2 hne
      have As2 := AsAt.to As1 xx1.vv
      have vv1 := xx1.vv
      have e2 : (upd G1 md (.dK (mK mg1 mp1 (.ref D1) ms1 ma1 (.int m.count) mh1))) md = _ := upd_same
      have b2 : ∀ b u, H b = some u → b ≠ ob → b ≠ md → (upd G1 md (.dK (mK mg1 mp1 (.ref D1) ms1 ma1 (.int m.count) mh1))) b = some u := fun b u e hb hm => by rw [upd_ne hm]; exact xx1.hh _ _ (b1 b u e hb hm)
      generalize upd G1 md (.dK (mK mg1 mp1 (.ref D1) ms1 ma1 (.int m.count) mh1)) = H2 at X2 e2 b2 ⊢

      have v2 := v1.trans vv1
      obtain ⟨ax2, zx2, rfl, qx2, dd2⟩ := dp_list (d4.to v2)
      have hz2 : zx2.length = (m.sent).length := by rw [dpall_len dd2, List.length_map]
      have sU2 := X2.sU
      have qs2 := sU2.seq qx2
      refine ⟨_, rfl, md, _, rfl, DGet.v e2 (mK_s _ _ _ _ _ _ _), ax2, rfl, ⟨_, qs2⟩, fun D2 hD2 => ?_⟩
      refine lc_dp (walk_list (K := K) (a := ax2) (xs := zx2)) (K := K) (V0 := U2) (H0 := H2) (fun i => ((m.sent)[i]?).bind fun r => if r.1 ≠ slot then some (rwD r) else none) _ rfl sU2 hD2 (by omega) (fun H' s => s.seq qs2) (fun i x H H' y => y.1) ?_ ?_
      · rintro k z Uz Hz hn' xx ⟨_, hz⟩ Qy Qn hy hno
        obtain ⟨d, hd, dv⟩ := dpall_get dd2 hz
        rw [List.getElem?_map] at hd
        obtain ⟨r, hr, rfl⟩ := Option.map_eq_some_iff.mp hd
        have dvz := dv.to xx.vv
        obtain ⟨pt, ws, rfl, qw⟩ := oth_row xx.vh dvz
        refine ⟨rfl, _, rfl, pt, _, _, _, rfl, rfl, qw, atI_nat (j := 0) rfl, _, rfl, rfl, _, rfl, ?_⟩
        rw [dec_int]
        by_cases c : r.1 = slot
        · rw [show (r.1 == slot) = true from beq_iff_eq.mpr c]
          exact if_f (b := !true) rfl (hno (by rw [hr]; exact if_neg (fun n => n c)) _ _ (Ext.refl xx.vh))
        · rw [show (r.1 == slot) = false from beq_eq_false_iff_ne.mpr c]
          exact if_t (b := !false) rfl ⟨_, rfl, hy (rwD r) _ _ _ (by rw [hr]; exact if_pos c) (Ext.refl xx.vh) dvz⟩
      rintro U3 G2 ws2 xx2 uD2 dA2 dl2
      rw [fm_fmap (fun r => if r.1 ≠ slot then some (rwD r) else none) (m.sent) _ hz2 _ (fun i x h => by rw [h]; rfl), filterMap_oth] at dA2
      have n2 : LsD K U3 (.ref D2) ((othR slot (m.sent)).map rwD) := ⟨D2, ws2, rfl, uD2, dA2⟩
      have eg2 := xx2.hh _ _ e2
      have ud3 := xx2.keepOut ud2 (by rw [e2]; exact fun z => by cases z)
      refine ⟨_, rfl, md, _, rfl, DPut.k (k := Sum.inr "sent") eg2 (mK_len _ _ _ _ _ _ _), ?_⟩
      rw [mK_ps]
      have X3 := (X2.ext xx2).poke (w := .dK (mK mg1 mp1 (.ref D1) (.ref D2) ma1 (.int m.count) mh1)) ud3 hne
      have As3 := AsAt.to As2 xx2.vv
      have vv2 := xx2.vv
      have e3 : (upd G2 md (.dK (mK mg1 mp1 (.ref D1) (.ref D2) ma1 (.int m.count) mh1))) md = _ := upd_same
      have b3 : ∀ b u, H b = some u → b ≠ ob → b ≠ md → (upd G2 md (.dK (mK mg1 mp1 (.ref D1) (.ref D2) ma1 (.int m.count) mh1))) b = some u := fun b u e hb hm => by rw [upd_ne hm]; exact xx2.hh _ _ (b2 b u e hb hm)
      generalize upd G2 md (.dK (mK mg1 mp1 (.ref D1) (.ref D2) ma1 (.int m.count) mh1)) = H3 at X3 e3 b3 ⊢

      have v3 := v2.trans vv2
      obtain ⟨ax3, zx3, rfl, qx3, dd3⟩ := dp_list (d5.dp.to v3)
      have hz3 : zx3.length = (rs).length := by rw [dpall_len dd3, List.length_map]
      have sU3 := X3.sU
      have qs3 := sU3.seq qx3
      refine ⟨_, rfl, md, _, rfl, DGet.v e3 (mK_a _ _ _ _ _ _ _), ax3, rfl, ⟨_, qs3⟩, fun D3 hD3 => ?_⟩
      refine lc_dp (walk_list (K := K) (a := ax3) (xs := zx3)) (K := K) (V0 := U3) (H0 := H3) (fun i => ((rs)[i]?).bind fun r => if (!decide (r.s = slot)) = true then some (arD r) else none) _ rfl sU3 hD3 (by omega) (fun H' s => s.seq qs3) (fun i x H H' y => y.1) ?_ ?_
      · rintro k z Uz Hz hn' xx ⟨_, hz⟩ Qy Qn hy hno
        obtain ⟨d, hd, dv⟩ := dpall_get dd3 hz
        rw [List.getElem?_map] at hd
        obtain ⟨r, hr, rfl⟩ := Option.map_eq_some_iff.mp hd
        have dvz := dv.to xx.vv
        obtain ⟨pt, ws, rfl, qw, dw⟩ := dp_list dvz
        cases dw with | cons c1 dw => cases dw with | cons c2 dw =>
        cases c1; cases c2
        have qw' := xx.vh.seq qw
        refine ⟨rfl, _, rfl, pt, _, _, _, rfl, rfl, qw', atI_nat (j := 1) rfl, _, rfl, rfl, _, rfl, ?_⟩
        rw [dec_int]
        by_cases c : r.s = slot
        · rw [show (r.s == slot) = true from beq_iff_eq.mpr c]
          exact if_f (b := !true) rfl (hno (by rw [hr]; show (if (!decide (r.s = slot)) = true then some (arD r) else none) = none; rw [decide_eq_true c]; rfl) _ _ (Ext.refl xx.vh))
        · rw [show (r.s == slot) = false from beq_eq_false_iff_ne.mpr c]
          exact if_t (b := !false) rfl ⟨_, rfl, hy (arD r) _ _ _ (by rw [hr]; show (if (!decide (r.s = slot)) = true then some (arD r) else none) = some (arD r); rw [decide_eq_false c]; rfl) (Ext.refl xx.vh) dvz⟩
      rintro U4 G3 ws3 xx3 uD3 dA3 dl3
      rw [fm_fmap (fun r : Ark => if (!decide (r.s = slot)) = true then some (arD r) else none) (rs) _ hz3 _ (fun i x h => by rw [h]; rfl), filterMap_if arD] at dA3
      have n3 : LsD K U4 (.ref D3) (((rs).filter fun r => !decide (r.s = slot)).map arD) := ⟨D3, ws3, rfl, uD3, dA3⟩
      have eg3 := xx3.hh _ _ e3
      have ud4 := xx3.keepOut ud3 (by rw [e3]; exact fun z => by cases z)
      refine ⟨_, rfl, md, _, rfl, DPut.k (k := Sum.inr "asked") eg3 (mK_len _ _ _ _ _ _ _), ?_⟩
      rw [mK_pa]
      have X4 := (X3.ext xx3).poke (w := .dK (mK mg1 mp1 (.ref D1) (.ref D2) (.ref D3) (.int m.count) mh1)) ud4 hne
      have As4 := AsAt.to As3 xx3.vv
      have vv3 := xx3.vv
      have e4 : (upd G3 md (.dK (mK mg1 mp1 (.ref D1) (.ref D2) (.ref D3) (.int m.count) mh1))) md = _ := upd_same
      have b4 : ∀ b u, H b = some u → b ≠ ob → b ≠ md → (upd G3 md (.dK (mK mg1 mp1 (.ref D1) (.ref D2) (.ref D3) (.int m.count) mh1))) b = some u := fun b u e hb hm => by rw [upd_ne hm]; exact xx3.hh _ _ (b3 b u e hb hm)
      generalize upd G3 md (.dK (mK mg1 mp1 (.ref D1) (.ref D2) (.ref D3) (.int m.count) mh1)) = H4 at X4 e4 b4 ⊢

      have v4 := v3.trans vv3
      have fin : ∀ (vh : V) (H5 : Hp), XAt A.CExchange K U4 H5 ob { m with drags := othR slot m.drags, sent := othR slot m.sent, hov := hovD (endH slot hv) } va1 → H5 md = some (.dK (mK mg1 mp1 (.ref D1) (.ref D2) (.ref D3) (.int m.count) vh)) → Dp K U4 vh (hovD (endH slot hv)) → (∀ b u, H b = some u → b ≠ ob → b ≠ md → H5 b = some u) → Q .non H5 := fun vh H5 X5 e5 dh b5 => by
        have es : othR slot (S.map snD) = (S.filter fun r => decide (r.1 ≠ slot)).map snD := by
          unfold othR
          rw [List.filter_map]; rfl
        exact q U4 H5 { m with drags := othR slot m.drags, sent := othR slot m.sent, hov := hovD (endH slot hv) } (S.filter fun r => decide (r.1 ≠ slot)) (rs.filter fun r => !decide (r.s = slot)) (endH slot hv) (fun b u e hb hm => b5 b u e hb hm)
          ⟨⟨va1, X5, As4⟩, by show othR slot m.sent = _; rw [B.snt, es], rfl, fun r hr => B.oS r (List.mem_filter.mp hr).1, B.gg, B.gp, sho B.gd, fun r hr => B.oo r (List.mem_filter.mp hr).1, ud4, ⟨_, _, _, _, _, _, e5, d1.to v4, d2.to v4, n1.to (vv2.trans vv3), (n2.to vv3).dp, n3, dh⟩, Nat.le_succ_of_le lg, Nat.le_succ_of_le lp, Nat.le_succ_of_le (oth_le ld), Nat.le_succ_of_le (Nat.le_trans (List.length_filter_le _ _) lS), Nat.le_succ_of_le (Nat.le_trans (List.length_filter_le _ _) lr)⟩
      rw [B.hvv] at d6
      refine ⟨_, rfl, md, _, rfl, DGet.v e4 (mK_h _ _ _ _ _ _ _), ?_⟩
      cases hv with
      | none =>
        cases d6
        exact ⟨rfl, _, rfl, if_f (b := !decide (V.non = V.non)) (by rw [decide_eq_true rfl]; rfl) (fin .non H4 X4 e4 .non b4)⟩
      | some pr =>
        obtain ⟨ah, xs, rfl, qh, dh⟩ := dp_tuple d6
        cases dh with | cons c1 dh => cases dh with | cons c2 dh =>
        cases dh; cases c1; cases c2
        have qh4 := X4.sU.sqt (v4.sqt qh)
        refine ⟨rfl, _, rfl, if_t (b := !decide (V.ref ah = V.non)) (by rw [decide_eq_false (fun z => by cases z)]; rfl) ?_⟩
        refine ⟨_, rfl, md, _, rfl, DGet.v e4 (mK_h _ _ _ _ _ _ _), ah, _, _, _, rfl, rfl, qh4, atI_nat (j := 0) rfl, _, rfl, rfl, _, rfl, iteEq (fun h => ?_) (fun h => ?_)⟩
        · refine ⟨_, rfl, md, _, rfl, DPut.k (k := Sum.inr "hovered") e4 (mK_len _ _ _ _ _ _ _), ?_⟩
          rw [mK_ph]
          refine fin .non _ (X4.poke ud4 hne) upd_same ?_ (fun b u e hb hm => by rw [upd_ne hm]; exact b4 b u e hb hm)
          show Dp K U4 .non (hovD (if pr.1 = slot then none else some pr))
          rw [if_pos h]; exact .non
        · refine fin (.ref ah) H4 X4 e4 ?_ b4
          show Dp K U4 (.ref ah) (hovD (if pr.1 = slot then none else some pr))
          rw [if_neg h]; exact (Dp.tup qh (.cons (.int _) (.cons (.int _) .nil)) : Dp K U (.ref ah) (hovD (some pr))).to v4
    walk_at "go"
    refine iteEq (fun c2 => ?_) (fun c2 => absurd hok (by omega))
    · refine ⟨_, rfl, ob, dx, _, rfl, e1, xF_no _ _ _ _ _ _ _ (by decide +kernel) (by decide +kernel) (by decide +kernel) (by decide +kernel) (by decide +kernel) (by decide +kernel) (by decide +kernel), _, rfl, ob, m, va, slot, U, rfl, X, fun U1 H1 g1 b1' X1 => ?_⟩
      have As1 : AsAt A.CAsked K U1 va rs := AsAt.to As g1.vv
      have e3 := b1' _ _ e2 hne.symm
      have e1 := e3
      have ud1 := g1.keepOut B.ud (by rw [e2]; exact fun z => by cases z)
      have b1 : ∀ b u, H b = some u → b ≠ ob → b ≠ md → H1 b = some u := fun b u e hb _ => b1' b u e hb
      have v1 := g1.vv
      obtain ⟨ax1, zx1, rfl, qx1, dd1⟩ := dp_list (d1.to v1)
      have hz1 : zx1.length = (m.gifts).length := by rw [dpall_len dd1, List.length_map]
      have sU1 := X1.sU
      have qs1 := sU1.seq qx1
      refine ⟨_, rfl, md, _, rfl, DGet.v e1 (mK_g _ _ _ _ _ _ _), ax1, rfl, ⟨_, qs1⟩, fun D1 hD1 => ?_⟩
      refine lc_dp (walk_list (K := K) (a := ax1) (xs := zx1)) (K := K) (V0 := U1) (H0 := H1) (fun i => ((m.gifts)[i]?).bind fun r => if r.1 ≠ slot then some (rwD r) else none) _ rfl sU1 hD1 (by omega) (fun H' s => s.seq qs1) (fun i x H H' y => y.1) ?_ ?_
      · rintro k z Uz Hz hn' xx ⟨_, hz⟩ Qy Qn hy hno
        obtain ⟨d, hd, dv⟩ := dpall_get dd1 hz
        rw [List.getElem?_map] at hd
        obtain ⟨r, hr, rfl⟩ := Option.map_eq_some_iff.mp hd
        have dvz := dv.to xx.vv
        obtain ⟨pt, ws, rfl, qw⟩ := oth_row xx.vh dvz
        refine ⟨rfl, _, rfl, pt, _, _, _, rfl, rfl, qw, atI_nat (j := 0) rfl, _, rfl, rfl, _, rfl, ?_⟩
        rw [dec_int]
        by_cases c : r.1 = slot
        · rw [show (r.1 == slot) = true from beq_iff_eq.mpr c]
          exact if_f (b := !true) rfl (hno (by rw [hr]; exact if_neg (fun n => n c)) _ _ (Ext.refl xx.vh))
        · rw [show (r.1 == slot) = false from beq_eq_false_iff_ne.mpr c]
          exact if_t (b := !false) rfl ⟨_, rfl, hy (rwD r) _ _ _ (by rw [hr]; exact if_pos c) (Ext.refl xx.vh) dvz⟩
      rintro U2 G1 ws1 xx1 uD1 dA1 dl1
      rw [fm_fmap (fun r => if r.1 ≠ slot then some (rwD r) else none) (m.gifts) _ hz1 _ (fun i x h => by rw [h]; rfl), filterMap_oth] at dA1
      have n1 : LsD K U2 (.ref D1) ((othR slot (m.gifts)).map rwD) := ⟨D1, ws1, rfl, uD1, dA1⟩
      have eg1 := xx1.hh _ _ e1
      have ud2 := xx1.keepOut ud1 (by rw [e1]; exact fun z => by cases z)
      refine ⟨_, rfl, md, _, rfl, DPut.k (k := Sum.inr "gifts") eg1 (mK_len _ _ _ _ _ _ _), ?_⟩
      rw [mK_pg]
      have X2 := (X1.ext xx1).poke (w := .dK (mK (.ref D1) mp1 md1 ms1 ma1 (.int m.count) mh1)) ud2 hne
      have As2 := AsAt.to As1 xx1.vv
      have vv1 := xx1.vv
      have e2 : (upd G1 md (.dK (mK (.ref D1) mp1 md1 ms1 ma1 (.int m.count) mh1))) md = _ := upd_same
      have b2 : ∀ b u, H b = some u → b ≠ ob → b ≠ md → (upd G1 md (.dK (mK (.ref D1) mp1 md1 ms1 ma1 (.int m.count) mh1))) b = some u := fun b u e hb hm => by rw [upd_ne hm]; exact xx1.hh _ _ (b1 b u e hb hm)
      generalize upd G1 md (.dK (mK (.ref D1) mp1 md1 ms1 ma1 (.int m.count) mh1)) = H2 at X2 e2 b2 ⊢

      have v2 := v1.trans vv1
      obtain ⟨ax2, zx2, rfl, qx2, dd2⟩ := dp_list (d2.to v2)
      have hz2 : zx2.length = (m.primary).length := by rw [dpall_len dd2, List.length_map]
      have sU2 := X2.sU
      have qs2 := sU2.seq qx2
      refine ⟨_, rfl, md, _, rfl, DGet.v e2 (mK_p _ _ _ _ _ _ _), ax2, rfl, ⟨_, qs2⟩, fun D2 hD2 => ?_⟩
      refine lc_dp (walk_list (K := K) (a := ax2) (xs := zx2)) (K := K) (V0 := U2) (H0 := H2) (fun i => ((m.primary)[i]?).bind fun r => if r.1 ≠ slot then some (rwD r) else none) _ rfl sU2 hD2 (by omega) (fun H' s => s.seq qs2) (fun i x H H' y => y.1) ?_ ?_
      · rintro k z Uz Hz hn' xx ⟨_, hz⟩ Qy Qn hy hno
        obtain ⟨d, hd, dv⟩ := dpall_get dd2 hz
        rw [List.getElem?_map] at hd
        obtain ⟨r, hr, rfl⟩ := Option.map_eq_some_iff.mp hd
        have dvz := dv.to xx.vv
        obtain ⟨pt, ws, rfl, qw⟩ := oth_row xx.vh dvz
        refine ⟨rfl, _, rfl, pt, _, _, _, rfl, rfl, qw, atI_nat (j := 0) rfl, _, rfl, rfl, _, rfl, ?_⟩
        rw [dec_int]
        by_cases c : r.1 = slot
        · rw [show (r.1 == slot) = true from beq_iff_eq.mpr c]
          exact if_f (b := !true) rfl (hno (by rw [hr]; exact if_neg (fun n => n c)) _ _ (Ext.refl xx.vh))
        · rw [show (r.1 == slot) = false from beq_eq_false_iff_ne.mpr c]
          exact if_t (b := !false) rfl ⟨_, rfl, hy (rwD r) _ _ _ (by rw [hr]; exact if_pos c) (Ext.refl xx.vh) dvz⟩
      rintro U3 G2 ws2 xx2 uD2 dA2 dl2
      rw [fm_fmap (fun r => if r.1 ≠ slot then some (rwD r) else none) (m.primary) _ hz2 _ (fun i x h => by rw [h]; rfl), filterMap_oth] at dA2
      have n2 : LsD K U3 (.ref D2) ((othR slot (m.primary)).map rwD) := ⟨D2, ws2, rfl, uD2, dA2⟩
      have eg2 := xx2.hh _ _ e2
      have ud3 := xx2.keepOut ud2 (by rw [e2]; exact fun z => by cases z)
      refine ⟨_, rfl, md, _, rfl, DPut.k (k := Sum.inr "primary") eg2 (mK_len _ _ _ _ _ _ _), ?_⟩
      rw [mK_pp]
      have X3 := (X2.ext xx2).poke (w := .dK (mK (.ref D1) (.ref D2) md1 ms1 ma1 (.int m.count) mh1)) ud3 hne
      have As3 := AsAt.to As2 xx2.vv
      have vv2 := xx2.vv
      have e3 : (upd G2 md (.dK (mK (.ref D1) (.ref D2) md1 ms1 ma1 (.int m.count) mh1))) md = _ := upd_same
      have b3 : ∀ b u, H b = some u → b ≠ ob → b ≠ md → (upd G2 md (.dK (mK (.ref D1) (.ref D2) md1 ms1 ma1 (.int m.count) mh1))) b = some u := fun b u e hb hm => by rw [upd_ne hm]; exact xx2.hh _ _ (b2 b u e hb hm)
      generalize upd G2 md (.dK (mK (.ref D1) (.ref D2) md1 ms1 ma1 (.int m.count) mh1)) = H3 at X3 e3 b3 ⊢

      have v3 := v2.trans vv2
      exact q U3 H3 { m with gifts := othR slot m.gifts, primary := othR slot m.primary } S rs hv b3
        ⟨⟨va, X3, As3⟩, B.snt, B.hvv, B.oS, sho B.gg, sho B.gp, B.gd, B.oo, ud3, ⟨_, _, _, _, _, _, e3, (n1.to vv2).dp, n2.dp, d3.to v3, d4.to v3, d5.to v3, d6.to v3⟩, Nat.le_succ_of_le (oth_le lg), Nat.le_succ_of_le (oth_le lp), Nat.le_succ_of_le ld, Nat.le_succ_of_le lS, Nat.le_succ_of_le lr⟩
theorem sc__law_send : FnScope ["exchange", "model", "deed", "slot", "row", "name", "rest", "one"] ["exchange", "model", "deed", "slot", "row"] (defScope s__law_send) := ⟨rfl, rfl, rfl, by decide +kernel, rfl, by decide +kernel, by decide +kernel⟩
theorem ok__law_send (T : Txt K mg A) : FnOk P w K mg base CX0 4 A.f_law_send A.d_law_send ["exchange", "model", "deed", "slot", "row"] (sp_deed A.CExchange A.CAsked K (fun d s r => [.int d, .int s, .int r]) (fun _ => True)) := by
  refine T.F_law_send.ok sc__law_send (fun vs H Q E h => ?_) (fun cdv Ar outer s H vs Q E hr h => ?_)
  · obtain ⟨_, _, _, _, _, _, _, _, _, _, _, rfl, _⟩ := h
    rfl
  · obtain ⟨ob, md, deed, slot, row, n, m, S, rs, hv, U, rfl, hok, B, hn, q⟩ := h
    obtain ⟨va, X, As⟩ := B.X
    obtain ⟨mg1, mp1, md1, ms1, ma1, mh1, e2, d1, d2, d3, d4, d5, d6⟩ := B.dk
    have hne := B.ne
    have lS := B.lS
    refine ⟨_, (pss_cons (ps_set (i := 5) sc__law_send.nd rfl (Or.inr rfl) (pe_op op_add_str pe_str (pe_callTy call_str_int (by rfl) T.str (by decide +kernel) (pa_cons (pe_op op_mod (pe_callTy call_int1 (by rfl) T.int (by decide +kernel) (pa_cons (pv 4) pa_nil)) pe_int) pa_nil))))
      (pss_cons (ps_setLc (i := 6) (own := [("one", 7)]) (g := (gName 7)) rfl sc__law_send.nd rfl rfl (sw_true rfl rfl rfl (by decide +kernel)) (pi_list (pe_dget (hu_of hr) (pv 1) pe_str (fun _ _ => rfl))) (blkOk_by (own := [("one", 7)]) (N := ["exchange", "model", "deed", "slot", "row", "name", "rest", "one"]) (sc := defScope s__law_send) (by decide +kernel)) (fun _ _ _ _ _ => (pg_name (i := 7) sc__law_send.nd rfl (Or.inl rfl))) (fun _ _ _ _ _ => (pts_one (PW.pt (pw_or (pt_cmpR op_ne (pe_ix (r := rIxT K) ix_tup (pv 7) pe_int (fun _ _ => rfl)) (pv 3) (nomark _)) (pw_or1 (pt_cmpR op_ne (pe_ix (r := rIxT K) ix_tup (pv 7) pe_int (fun _ _ => rfl)) (pv 5) (nomark _))))))) (fun _ _ _ _ _ => by exact (pv 7)))
      (pss_one (ps_if (pt_cmpR op_eq (pv 2) pe_int (nomark _))
      (pss_cons (ps_expr (pe_meth (pv 0) T.clExchange T.mExchange_send (ok_Exchange_send T) (hr.mono (by decide)) T.bExchange_send .nil pass0 (pa_cons (pv 3) (pa_cons (pv 5) (pa_cons (pe_lst (pa_cons (pe_op op_mod (pe_callTy call_int1 (by rfl) T.int (by decide +kernel) (pa_cons (pe_op op_fdiv (pv 4) pe_int) pa_nil)) pe_int) pa_nil)) pa_nil)))))
      (pss_one (ps_dput (hu_of hr) (pv 1) pe_str (pe_op op_cat (pv 6) (pe_lst (pa_cons (pe_tup (pa_cons (pv 3) (pa_cons (pv 5) (pa_cons (pe_lst (pa_cons (pe_op op_mod (pe_callTy call_int1 (by rfl) T.int (by decide +kernel) (pa_cons (pe_op op_fdiv (pv 4) pe_int) pa_nil)) pe_int) pa_nil)) pa_nil)))) pa_nil))) rfl)))
      (pss_cons (ps_expr (pe_meth (pv 0) T.clExchange T.mExchange_unsend (ok_Exchange_unsend T) (hr.mono (by decide)) T.bExchange_unsend .nil pass0 (pa_cons (pv 3) (pa_cons (pv 5) pa_nil))))
      (pss_one (ps_dput (hu_of hr) (pv 1) pe_str (pv 6) rfl))))))), ?_⟩
    walk_at "go"
    have hi : 0 ≤ row % 3 ∧ row % 3 < 3 := by omega
    generalize row % 3 = i at hi ⊢
    refine ⟨log3 hi, ?_⟩
    walk_at "go"
    refine ⟨len3 hi "n" (.inr rfl), ?_⟩
    have on := str3 hi "n" (.inr rfl)
    have enm : V.str ((fun x j => x ++ j) (Str.ofString "n") (Str.ofString (toString i))) = V.str (Str.ofString "n" ++ Str.ofString (toString i)) := rfl
    generalize Str.ofString "n" ++ Str.ofString (toString i) = nm at on ⊢
    rw [B.snt, List.map_map] at d4
    obtain ⟨ax, zx, rfl, qx, dd⟩ := dp_list d4
    have hz : zx.length = S.length := by rw [dpall_len dd, List.length_map]
    have sU := X.sU
    have qs := sU.seq qx
    walk_at "go"
    refine ⟨md, _, rfl, DGet.v e2 (mK_s _ _ _ _ _ _ _), ax, rfl, ⟨_, qs⟩, fun D hD => ?_⟩
    refine lc_dp (walk_list (K := K) (a := ax) (xs := zx)) (K := K) (V0 := U) (H0 := H) (fun i => (S[i]?).bind fun r => if ¬ (r.1 = slot ∧ r.2.1 = nm) then some (rwD (snD r)) else none) _ rfl sU hD (by omega) (fun H' s => s.seq qs) (fun i x H H' y => y.1) ?_ ?_
    · rintro k z Uz Hz hn' xx ⟨_, hz⟩ Qy Qn hy hno
      obtain ⟨d, hd, dv⟩ := dpall_get dd hz
      rw [List.getElem?_map] at hd
      obtain ⟨r, hr, rfl⟩ := Option.map_eq_some_iff.mp hd
      have dvz := dv.to xx.vv
      obtain ⟨pt, ws, rfl, qw, dw⟩ := dp_tuple dvz
      cases dw with | cons c1 dw => cases dw with | cons c2 dw =>
      cases c1; cases c2
      have qw' := xx.vh.sqt qw
      have hno' : (r.1 = slot ∧ r.2.1 = nm) → Qn Hz := fun cc => hno (by rw [hr]; exact if_neg (fun z => z cc)) _ _ (Ext.refl xx.vh)
      have hy' : ¬ (r.1 = slot ∧ r.2.1 = nm) → Qy (.ref pt) Hz := fun cc => hy (rwD (snD r)) _ _ _ (by rw [hr]; exact if_pos cc) (Ext.refl xx.vh) dvz
      refine ⟨rfl, _, rfl, pt, _, _, _, rfl, rfl, qw', atI_nat (j := 0) rfl, _, rfl, rfl, _, rfl, ?_⟩
      rw [dec_int]
      by_cases c1 : r.1 = slot
      · rw [show ((snD r).1 == slot) = true from beq_iff_eq.mpr c1]
        refine if_f (b := !true) rfl ?_
        refine ⟨_, rfl, pt, _, _, _, rfl, rfl, qw', atI_nat (j := 1) rfl, _, rfl, rfl, _, rfl, ?_⟩
        by_cases c2 : r.2.1 = nm
        · exact if_f (by rw [show decide (V.str r.2.1 = V.str nm) = true from decide_eq_true (by rw [c2])]; rfl) (hno' ⟨c1, c2⟩)
        · exact if_t (by rw [show decide (V.str r.2.1 = V.str nm) = false from decide_eq_false (fun z => c2 (by injection z))]; rfl) ⟨_, rfl, hy' fun z => c2 z.2⟩
      · rw [show ((snD r).1 == slot) = false from beq_eq_false_iff_ne.mpr c1]
        refine if_t (b := !false) rfl ?_
        exact if_t rfl ⟨_, rfl, hy' fun z => c1 z.1⟩
    · rintro U1 H1 ws xx uD dA dl
      rw [fm_fmap (fun r : Int × Str × List Int => if ¬ (r.1 = slot ∧ r.2.1 = nm) then some (rwD (snD r)) else none) S _ hz _ (fun i x h => by rw [h]; rfl), filterMap_uns] at dA
      have hwl : ws.length = (unsR slot nm S).length := by rw [dpall_len dA, List.length_map, List.length_map]
      have hul : (unsR slot nm S).length ≤ S.length := List.length_filter_le _ _
      have B1 := B.ext xx
      obtain ⟨va1, X1, As1⟩ := B1.X
      obtain ⟨dx, fg, fp, fd, fs, fh, e1, x4⟩ := X1.ob
      have e3 := xx.hh _ _ e2
      have oS1 : ∀ r ∈ unsR slot nm S, PyData.strOk r.2.1 = true := fun r hr => B.oS r (List.mem_filter.mp hr).1
      walk_at "go"
      refine iteEq (fun c => ?_) (fun c => ?_)
      · refine ⟨_, rfl, ob, dx, _, rfl, e1, xF_no _ _ _ _ _ _ _ (by decide +kernel) (by decide +kernel) (by decide +kernel) (by decide +kernel) (by decide +kernel) (by decide +kernel) (by decide +kernel), _, rfl, _, rfl, ?_⟩
        walk_at "go"
        rename_i p1 h1
        have x2 := xx.trans (Ext.new (o := .lst [.int (row / 3 % 256)]) xx.vh h1)
        have s2 := same_upd (o := .lst [.int (row / 3 % 256)]) (none_of_same xx.vh h1)
        have B2 := B.ext x2
        obtain ⟨va2, X2, As2⟩ := B2.X
        have e5 := x2.hh _ _ e2
        have dvo : Dp K (upd U1 p1 (.lst [.int (row / 3 % 256)])) (.ref p1) (.list ([row / 3 % 256].map PyData.int)) := .lst (SqL.of upd_same) (.cons (.int _) .nil)
        refine ⟨ob, m, S, va2, .ref p1, slot, nm, [row / 3 % 256], _, rfl, X2, B.snt, on, B.oS, dvo, (by show 1 < 1000; decide), by omega, fun U4 H4 g4 b4 X4 => ?_⟩
        have e4 := b4 _ _ e5 hne.symm
        have ud4 := g4.keepOut B2.ud (by rw [e5]; exact fun z => by cases z)
        walk_at "go"
        rename_i p2 h2 p3 h3 p4 h4
        have x5 : Ext U4 H4 _ _ := Ext.new (o := .lst [.int (row / 3 % 256)]) g4.vh h2
        have t5 := same_upd (o := .lst [.int (row / 3 % 256)]) (none_of_same g4.vh h2)
        have x6 := x5.trans (Ext.new (o := .tup [.int slot, .str nm, .ref p2]) x5.vh h3)
        have t6 := same_upd (o := .tup [.int slot, .str nm, .ref p2]) (none_of_same x5.vh h3)
        have x7 := x6.trans (Ext.new (o := .lst [.ref p3]) x6.vh h4)
        have t7 := same_upd (o := .lst [.ref p3]) (none_of_same x6.vh h4)
        have hp : Dp K (upd (upd U4 p2 (.lst [.int (row / 3 % 256)])) p3 (.tup [.int slot, .str nm, .ref p2])) (.ref p3) (rwD (snD (slot, nm, [row / 3 % 256]))) := .tup (SqT.of upd_same) (.cons (.int _) (.cons (.str _) (.cons (.lst (t6.seq (SqL.of upd_same)) (.cons (.int _) .nil)) .nil)))
        have eD := x7.hh _ _ (g4.vh _ _ (g4.vv _ _ (s2 _ _ uD)))
        refine ⟨D, p4, _, _, rfl, rfl, eD, upd_same, ?_, fun r hr => ?_⟩
        · rw [sizeLine_eq]; show ws.length + 1 ≤ _; omega
        have x8 := x7.trans (Ext.new (o := .lst (ws ++ [.ref p3])) x7.vh hr)
        have t8 := same_upd (o := .lst (ws ++ [.ref p3])) (none_of_same x7.vh hr)
        have e8 := x8.hh _ _ e4
        refine ⟨_, rfl, md, _, rfl, DPut.k (k := Sum.inr "sent") e8 (mK_len _ _ _ _ _ _ _), ?_⟩
        rw [mK_ps]
        have v48 := g4.vv.trans x8.vv
        have v18 := s2.trans v48
        have vv := x2.vv.trans v48
        have ud8 := x8.keepOut ud4 (by rw [e4]; exact fun z => by cases z)
        have As8 := AsAt.to As2 v48
        exact q _ _ { m with sent := (unsR slot nm S ++ [(slot, nm, [row / 3 % 256])]).map snD } (unsR slot nm S ++ [(slot, nm, [row / 3 % 256])]) rs hv (fun b u e hb hm => by rw [upd_ne hm]; exact x8.hh _ _ (b4 b u (x2.hh _ _ e) hb))
          ⟨⟨va2, XAt.poke (XAt.ext X4 x8) ud8 hne, As8⟩, rfl, B.hvv, fun r hr => by
            rcases List.mem_append.mp hr with hr | hr
            · exact oS1 r hr
            · rw [List.mem_singleton.mp hr]; exact on, B.gg, B.gp, B.gd, B.oo, ud8, ⟨_, _, _, _, _, _, upd_same, d1.to vv, d2.to vv, d3.to vv, (by
            rw [List.map_append, List.map_append]
            exact .lst (SqL.of upd_same) (dpall_app (dA.to v18) (.cons ((hp.to t7).to t8) .nil))), d5.to vv, d6.to vv⟩, Nat.le_succ_of_le B.lg, Nat.le_succ_of_le B.lp, Nat.le_succ_of_le B.ld, by rw [List.length_append]; exact Nat.succ_le_succ (Nat.le_trans hul lS), Nat.le_succ_of_le B.lr⟩
      · refine ⟨_, rfl, ob, dx, _, rfl, e1, xF_no _ _ _ _ _ _ _ (by decide +kernel) (by decide +kernel) (by decide +kernel) (by decide +kernel) (by decide +kernel) (by decide +kernel) (by decide +kernel), _, rfl, _, rfl, ob, m, S, va1, slot, nm, U1, rfl, X1, B.snt, on, B.oS, fun U4 H4 g4 b4 X4 => ?_⟩
        have e4 := b4 _ _ e3 hne.symm
        have ud4 := g4.keepOut B1.ud (by rw [e3]; exact fun z => by cases z)
        refine ⟨_, rfl, _, rfl, md, _, rfl, DPut.k (k := Sum.inr "sent") e4 (mK_len _ _ _ _ _ _ _), ?_⟩
        rw [mK_ps]
        have vv := xx.vv.trans g4.vv
        have As4 : AsAt A.CAsked K U4 va1 rs := AsAt.to As1 g4.vv
        exact q U4 _ { m with sent := (unsR slot nm S).map snD } (unsR slot nm S) rs hv (fun b u e hb hm => by rw [upd_ne hm]; exact b4 b u (xx.hh _ _ e) hb)
          ⟨⟨va1, XAt.poke X4 ud4 hne, As4⟩, rfl, B.hvv, oS1, B.gg, B.gp, B.gd, B.oo, ud4, ⟨_, _, _, _, _, _, upd_same, d1.to vv, d2.to vv, d3.to vv, (LsD.dp ⟨D, ws, rfl, uD, dA⟩).to g4.vv, d5.to vv, d6.to vv⟩, Nat.le_succ_of_le B.lg, Nat.le_succ_of_le B.lp, Nat.le_succ_of_le B.ld, Nat.le_succ_of_le (Nat.le_trans hul lS), Nat.le_succ_of_le B.lr⟩
theorem mK_new (g p d s a n h : V) : mergeK [] [((Sum.inr "gifts" : Key), g), (Sum.inr "primary", p), (Sum.inr "drags", d), (Sum.inr "sent", s), (Sum.inr "asked", a), (Sum.inr "count", n), (Sum.inr "hovered", h)] = mK g p d s a n h := by
  simp [mergeK, putK, mK, ne_primary_gifts, ne_drags_gifts, ne_sent_gifts, ne_asked_gifts, ne_count_gifts, ne_hovered_gifts, ne_gifts_primary, ne_drags_primary, ne_sent_primary, ne_asked_primary, ne_count_primary, ne_hovered_primary, ne_gifts_drags, ne_primary_drags, ne_sent_drags, ne_asked_drags, ne_count_drags, ne_hovered_drags, ne_gifts_sent, ne_primary_sent, ne_drags_sent, ne_asked_sent, ne_count_sent, ne_hovered_sent, ne_gifts_asked, ne_primary_asked, ne_drags_asked, ne_sent_asked, ne_count_asked, ne_hovered_asked, ne_gifts_count, ne_primary_count, ne_drags_count, ne_sent_count, ne_asked_count, ne_hovered_count, ne_gifts_hovered, ne_primary_hovered, ne_drags_hovered, ne_sent_hovered, ne_asked_hovered, ne_count_hovered]
theorem sql_but {K : PySem.W.Frag} {H H' : Hp} {a ob md C dx : Addr} {xs : List V} {fs : List (Str × V)} {kvs : List (Key × V)} (h : SqL K H a xs) (b : But2 H H' ob md) (e1 : H ob = some (.ins C dx fs)) (e2 : H md = some (.dK kvs)) : SqL K H' a xs := by
  rcases h with (h | ⟨o, h⟩) | h
  · exact .inl (.inl (b _ _ h (fun z => by rw [z, e1] at h; cases h) (fun z => by rw [z, e2] at h; cases h)))
  · exact .inl (.inr ⟨o, b _ _ h (fun z => by rw [z, e1] at h; cases h) (fun z => by rw [z, e2] at h; cases h)⟩)
  · exact .inr h
theorem sc_law : FnScope ["script", "exchange", "model", "k", "row", "deed", "slot"] ["script"] (defScope s_law) := ⟨rfl, rfl, rfl, by decide +kernel, rfl, by decide +kernel, by decide +kernel⟩
theorem ok_law (T : Txt K mg A) : FnOk P w K mg base CX0 5 A.flaw A.dlaw ["script"] (sp_law K) := by
  refine T.Flaw.ok sc_law (fun vs H Q E h => ?_) (fun cdv Ar outer s H vs Q E hr h => ?_)
  · obtain ⟨a, ns, rfl, _⟩ := h
    rfl
  · obtain ⟨a, ns, rfl, hS, hlen, q⟩ := h
    refine ⟨_, (pss_cons (ps_set (i := 1) sc_law.nd rfl (Or.inl rfl) (pe_make0 T.MExchange (ok_Exchange___init__ T) (hr.mono (by decide)) rfl T.gExchange T.bExchange___init__ .nil pass0))
      (pss_cons (ps_set (i := 2) sc_law.nd rfl (Or.inl rfl) (pe_disp (pps_cons pe_str (pe_lst pa_nil) (pps_cons pe_str (pe_lst pa_nil) (pps_cons pe_str (pe_lst pa_nil) (pps_cons pe_str (pe_lst pa_nil) (pps_cons pe_str (pe_lst pa_nil) (pps_cons pe_str pe_int (pps_cons pe_str pe_non pps_nil))))))) (by rfl) (by rfl) (fun z => by cases z) (by decide)))
      (pss_cons (ps_if (pt_not (pt_val (pe_call (ok__law_same T) (hr.mono (by decide)) rfl T.g_law_same T.k_law_same T.b_law_same .nil pass0 (pa_cons (pv 1) (pa_cons (pv 2) pa_nil)))))
      (pss_one (ps_ret pe_bl))
      pss_nil)
      (pss_cons (ps_for PassesOwn.never rfl (pi_range1 (by rfl) T.range (pa_cons (pe_op op_add (pe_callB (call_min2 rfl) (by rfl) T.min (by decide +kernel) (pa_cons pe_int (pa_cons (pe_callB call_len_seq (by rfl) T.len PySem.boot_len (pa_cons (pv 0) pa_nil)) pa_nil))) pe_int) pa_nil)) (pg_name (i := 3) sc_law.nd rfl (Or.inl rfl))
      (pss_cons (ps_set (i := 4) sc_law.nd rfl (Or.inl rfl) (pe_call (ok__law_row T) (hr.mono (by decide)) rfl T.g_law_row T.k_law_row T.b_law_row .nil pass0 (pa_cons (pv 0) (pa_cons (pv 3) pa_nil))))
      (pss_cons (ps_set (i := 5) sc_law.nd rfl (Or.inl rfl) (pe_op op_mod (pe_callTy call_int1 (by rfl) T.int (by decide +kernel) (pa_cons (pv 4) pa_nil)) pe_int))
      (pss_cons (ps_set (i := 6) sc_law.nd rfl (Or.inl rfl) (pe_op op_mod (pe_callTy call_int1 (by rfl) T.int (by decide +kernel) (pa_cons (pe_op op_fdiv (pv 4) pe_int) pa_nil)) pe_int))
      (C8.pss_cut (ps_if (pt_cmpR op_lt (pv 5) pe_int (nomark _))
      (pss_one (ps_expr (pe_call (ok__law_give T) (hr.mono (by decide)) rfl T.g_law_give T.k_law_give T.b_law_give .nil pass0 (pa_cons (pv 1) (pa_cons (pv 2) (pa_cons (pv 5) (pa_cons (pv 6) (pa_cons (pe_op op_fdiv (pv 4) pe_int) pa_nil))))))))
      (pss_one (ps_if (pt_cmpR op_lt (pv 5) pe_int (nomark _))
      (pss_one (ps_expr (pe_call (ok__law_send T) (hr.mono (by decide)) rfl T.g_law_send T.k_law_send T.b_law_send .nil pass0 (pa_cons (pv 1) (pa_cons (pv 2) (pa_cons (pv 5) (pa_cons (pv 6) (pa_cons (pe_op op_fdiv (pv 4) pe_int) pa_nil))))))))
      (pss_one (ps_if (pt_cmpR op_lt (pv 5) pe_int (nomark _))
      (pss_one (ps_expr (pe_call (ok__law_ask T) (hr.mono (by decide)) rfl T.g_law_ask T.k_law_ask T.b_law_ask .nil pass0 (pa_cons (pv 1) (pa_cons (pv 2) (pa_cons (pv 5) (pa_cons (pv 6) (pa_cons (pe_op op_fdiv (pv 4) pe_int) pa_nil))))))))
      (pss_one (ps_if (pt_cmpR op_lt (pv 5) pe_int (nomark _))
      (pss_one (ps_expr (pe_call (ok__law_end T) (hr.mono (by decide)) rfl T.g_law_end T.k_law_end T.b_law_end .nil pass0 (pa_cons (pv 1) (pa_cons (pv 2) (pa_cons (pv 5) (pa_cons (pv 6) pa_nil)))))))
      (pss_one (ps_expr (pe_call (ok__law_hover T) (hr.mono (by decide)) rfl T.g_law_hover T.k_law_hover T.b_law_hover .nil pass0 (pa_cons (pv 1) (pa_cons (pv 2) (pa_cons (pv 6) (pa_cons (pe_op op_fdiv (pv 4) pe_int) pa_nil))))))))))))))
      (pss_one (ps_if (pt_not (pt_val (pe_call (ok__law_same T) (hr.mono (by decide)) rfl T.g_law_same T.k_law_same T.b_law_same .nil pass0 (pa_cons (pv 1) (pa_cons (pv 2) pa_nil)))))
      (pss_one (ps_ret pe_bl))
      pss_nil)))))))
      (pss_one (ps_ret pe_bl)))))), ?_⟩
    intro ob dx nx ndx nex
    refine ⟨ob, dx, rfl, upd_same, fun H1 U1 va b1 f1 X1 A1 => ⟨rfl, ?_⟩⟩
    have sH1 : Same H H1 := made_same5 nx ndx b1
    intro md hmd
    have x0 := Ext.skip (o := .dK []) X1.sU hmd
    have ud1 := none_of_same X1.sU hmd
    refine ⟨len_line (by show 0 ≤ 100000; decide), fun p1 n1 => ⟨len_line (by show 0 ≤ 100000; decide), fun p2 n2 => ⟨len_line (by show 0 ≤ 100000; decide), fun p3 n3 => ⟨len_line (by show 0 ≤ 100000; decide), fun p4 n4 => ⟨len_line (by show 0 ≤ 100000; decide), fun p5 n5 => ?_⟩⟩⟩⟩⟩
    have x1 := Ext.new (o := .lst []) x0.vh n1
    have x2 := x1.trans (Ext.new (o := .lst []) x1.vh n2)
    have x3 := x2.trans (Ext.new (o := .lst []) x2.vh n3)
    have x4 := x3.trans (Ext.new (o := .lst []) x3.vh n4)
    have x5 := x4.trans (Ext.new (o := .lst []) x4.vh n5)
    have l1 : (upd (upd (upd (upd (upd U1 p1 (.lst [])) p2 (.lst [])) p3 (.lst [])) p4 (.lst [])) p5 (.lst [])) p1 = some (.lst []) := (same_upd (o := .lst []) (none_of_same x4.vh n5)) _ _ ((same_upd (o := .lst []) (none_of_same x3.vh n4)) _ _ ((same_upd (o := .lst []) (none_of_same x2.vh n3)) _ _ ((same_upd (o := .lst []) (none_of_same x1.vh n2)) _ _ (upd_same))))
    have l2 : (upd (upd (upd (upd (upd U1 p1 (.lst [])) p2 (.lst [])) p3 (.lst [])) p4 (.lst [])) p5 (.lst [])) p2 = some (.lst []) := (same_upd (o := .lst []) (none_of_same x4.vh n5)) _ _ ((same_upd (o := .lst []) (none_of_same x3.vh n4)) _ _ ((same_upd (o := .lst []) (none_of_same x2.vh n3)) _ _ (upd_same)))
    have l3 : (upd (upd (upd (upd (upd U1 p1 (.lst [])) p2 (.lst [])) p3 (.lst [])) p4 (.lst [])) p5 (.lst [])) p3 = some (.lst []) := (same_upd (o := .lst []) (none_of_same x4.vh n5)) _ _ ((same_upd (o := .lst []) (none_of_same x3.vh n4)) _ _ (upd_same))
    have l4 : (upd (upd (upd (upd (upd U1 p1 (.lst [])) p2 (.lst [])) p3 (.lst [])) p4 (.lst [])) p5 (.lst [])) p4 = some (.lst []) := (same_upd (o := .lst []) (none_of_same x4.vh n5)) _ _ (upd_same)
    have l5 : (upd (upd (upd (upd (upd U1 p1 (.lst [])) p2 (.lst [])) p3 (.lst [])) p4 (.lst [])) p5 (.lst [])) p5 = some (.lst []) := upd_same
    have e5 : (upd (upd (upd (upd (upd (upd H1 md (.dK [])) p1 (.lst [])) p2 (.lst [])) p3 (.lst [])) p4 (.lst [])) p5 (.lst [])) md = some (.dK []) := (same_upd (o := .lst []) n5) _ _ ((same_upd (o := .lst []) n4) _ _ ((same_upd (o := .lst []) n3) _ _ ((same_upd (o := .lst []) n2) _ _ ((same_upd (o := .lst []) n1) _ _ (upd_same)))))
    generalize (upd (upd (upd (upd (upd U1 p1 (.lst [])) p2 (.lst [])) p3 (.lst [])) p4 (.lst [])) p5 (.lst [])) = U5 at x5 l1 l2 l3 l4 l5
    generalize (upd (upd (upd (upd (upd (upd H1 md (.dK [])) p1 (.lst [])) p2 (.lst [])) p3 (.lst [])) p4 (.lst [])) p5 (.lst [])) = H5 at x5 e5 ⊢
    have ud5 : U5 md = none := x5.keepOut ud1 (by rw [upd_same]; exact fun z => by cases z)
    have xx5 := x0.trans x5
    refine ⟨e5, [(Sum.inr "gifts", .ref p1), (Sum.inr "primary", .ref p2), (Sum.inr "drags", .ref p3), (Sum.inr "sent", .ref p4), (Sum.inr "asked", .ref p5), (Sum.inr "count", .int 0), (Sum.inr "hovered", .non)], rfl, (by show 7 ≤ 15; decide), ?_⟩
    rw [mK_new]
    have x6 := xx5.poke (o := .dK (mK (.ref p1) (.ref p2) (.ref p3) (.ref p4) (.ref p5) (.int 0) .non)) hmd ud5
    have e6 : (upd H5 md (.dK (mK (.ref p1) (.ref p2) (.ref p3) (.ref p4) (.ref p5) (.int 0) .non))) md = _ := upd_same
    generalize upd H5 md (.dK (mK (.ref p1) (.ref p2) (.ref p3) (.ref p4) (.ref p5) (.int 0) .non)) = H6 at x6 e6 ⊢
    have nil : ∀ p, U5 p = some (.lst []) → LsD K U5 (.ref p) [] := fun p e => ⟨p, [], rfl, e, .nil⟩
    have A6 : AsAt A.CAsked K U5 va [] := AsAt.to A1 x6.vv
    have B6 : Both A.CExchange A.CAsked K U5 H6 ob md 0 xm0 [] [] none := ⟨⟨va, XAt.ext X1 x6, A6⟩, rfl, rfl, fun r hr => (by cases hr), fun r hr => (by cases hr), fun r hr => (by cases hr), fun r hr => (by cases hr), fun r hr => (by cases hr), ud5, ⟨_, _, _, _, _, _, e6, (nil _ l1).dp, (nil _ l2).dp, nil _ l3, (nil _ l4).dp, nil _ l5, .non⟩, Nat.le_refl _, Nat.le_refl _, Nat.le_refl _, Nat.le_refl _, Nat.le_refl _⟩
    have hS6 := x6.hh.seq (sH1.seq hS)
    refine ⟨_, rfl, _, rfl, ob, md, 0, xm0, [], [], none, U5, rfl, B6, by omega, fun U7 H7 x7 => ?_⟩
    refine ⟨_, rfl, if_f rfl ?_⟩
    have B7 := B6.ext x7
    have hS7 := x7.hh.seq hS6
    walk_at "go"
    refine ⟨?_, ?_, ?_⟩
    · split <;> omega
    · rw [List.length_map]; split <;> omega
    have hnn : ((if (((ns.map V.int).length : Nat) : Int) < 40 then (((ns.map V.int).length : Nat) : Int) else 40) + 1).toNat ≤ 41 := by split <;> omega
    refine for_range (lo := 0) (fun i σ H' => ∃ (v3 v4 v5 v6 : Option V) (U : Hp) (m : Xm) (S : List (Int × Str × List Int)) (rs : List Ark) (hv : Option (Int × Int)), σ = [some (.ref a), some (.ref ob), some (.ref md), v3, v4, v5, v6] ∧ Both A.CExchange A.CAsked K U H' ob md i m S rs hv ∧ SqL K H' a (ns.map V.int)) ?_ ?_ ?_
    · exact ⟨_, _, _, _, _, _, _, _, _, rfl, B7, hS7⟩
    · rintro i σ H8 hi ⟨v3, v4, v5, v6, U8, m, S, rs, hv, rfl, B8, s8⟩
      have hi2 : i < 41 := Nat.lt_of_lt_of_le hi hnn
      refine ⟨_, rfl, _, rfl, a, ns, i, ?_, s8, ?_⟩
      · show [V.ref a, V.int (0 + (i : Int))] = [V.ref a, V.int (i : Int)]
        rw [Int.zero_add]
      generalize lawRow ns i = row
      obtain ⟨va8, X8, _⟩ := B8.X
      obtain ⟨dx8, _, _, _, _, _, eo8, _⟩ := X8.ob
      obtain ⟨_, _, _, _, _, _, ed8, _⟩ := B8.dk
      walk_at "go"
      refine ⟨fun σ' H' => ∃ (U : Hp) (m : Xm) (S : List (Int × Str × List Int)) (rs : List Ark) (hv : Option (Int × Int)), σ' = [some (.ref a), some (.ref ob), some (.ref md), some (.int (0 + (i : Int))), some (.int row), some (.int (row % 10)), some (.int (row / 10 % 4))] ∧ Both A.CExchange A.CAsked K U H' ob md (i + 1) m S rs hv ∧ SqL K H' a (ns.map V.int), ?_, ?_⟩
      · have hd : 0 ≤ row % 10 ∧ row % 10 < 10 := by omega
        refine ⟨_, rfl, _, _, rfl, rfl, _, rfl, iteP (fun c1 => ?_) (fun c1 => ?_)⟩
        · have c1' : row % 10 < 3 := c1
          exact ⟨_, rfl, _, rfl, _, rfl, _, rfl, _, rfl, _, _, rfl, rfl, ⟨by decide, by decide⟩, ob, md, row % 10, row / 10 % 4, row / 40, i, m, S, rs, hv, U8, rfl, ⟨hd.1, c1⟩, B8, by omega, fun U' H' m' S' rs' hv' bt Bt => ⟨U', m', S', rs', hv', rfl, Bt, sql_but s8 bt eo8 ed8⟩⟩
        refine ⟨_, rfl, _, _, rfl, rfl, _, rfl, iteP (fun c2 => ?_) (fun c2 => ?_)⟩
        · exact ⟨_, rfl, _, rfl, _, rfl, _, rfl, _, rfl, _, _, rfl, rfl, ⟨by decide, by decide⟩, ob, md, row % 10, row / 10 % 4, row / 40, i, m, S, rs, hv, U8, rfl, trivial, B8, by omega, fun U' H' m' S' rs' hv' bt Bt => ⟨U', m', S', rs', hv', rfl, Bt, sql_but s8 bt eo8 ed8⟩⟩
        refine ⟨_, rfl, _, _, rfl, rfl, _, rfl, iteP (fun c3 => ?_) (fun c3 => ?_)⟩
        · exact ⟨_, rfl, _, rfl, _, rfl, _, rfl, _, rfl, _, _, rfl, rfl, ⟨by decide, by decide⟩, ob, md, row % 10, row / 10 % 4, row / 40, i, m, S, rs, hv, U8, rfl, trivial, B8, by omega, fun U' H' m' S' rs' hv' bt Bt => ⟨U', m', S', rs', hv', rfl, Bt, sql_but s8 bt eo8 ed8⟩⟩
        refine ⟨_, rfl, _, _, rfl, rfl, _, rfl, iteP (fun c4 => ?_) (fun c4 => ?_)⟩
        · have c3' : ¬ row % 10 < 7 := c3
          exact ⟨_, rfl, _, rfl, _, rfl, _, rfl, ob, md, row % 10, row / 10 % 4, 0, i, m, S, rs, hv, U8, rfl, ⟨by omega, c4⟩, B8, by omega, fun U' H' m' S' rs' hv' bt Bt => ⟨U', m', S', rs', hv', rfl, Bt, sql_but s8 bt eo8 ed8⟩⟩
        · exact ⟨_, rfl, _, rfl, _, rfl, _, rfl, _, _, rfl, rfl, ⟨by decide, by decide⟩, ob, md, 0, row / 10 % 4, row / 40, i, m, S, rs, hv, U8, rfl, trivial, B8, by omega, fun U' H' m' S' rs' hv' bt Bt => ⟨U', m', S', rs', hv', rfl, Bt, sql_but s8 bt eo8 ed8⟩⟩
      rintro σ' H9 ⟨U9, m9, S9, rs9, hv9, rfl, B9, s9⟩
      refine ⟨_, rfl, _, rfl, ob, md, i + 1, m9, S9, rs9, hv9, U9, rfl, B9, by omega, fun U10 H10 x10 => ?_⟩
      refine ⟨_, rfl, if_f rfl ?_⟩
      exact ⟨_, _, _, _, _, _, _, _, _, rfl, B9.ext x10, x10.hh.seq s9⟩
    · rintro σ H8 ⟨v3, v4, v5, v6, U8, m, S, rs, hv, rfl, B8, s8⟩
      exact q _
end
theorem all_mk {K : PySem.W.Frag} {h : Heap} {mg : Str → Option Value} {fa : Addr} (X : K.In h) (G : h.Ns mainGlobals mg) (hfa : mg "law" = some (.ref fa))
    {f_of_others : Addr} {od1 an1 : Option Addr} {sl1 : Array (Option Value)} {oc1 kV1 dc1 pm1 cd1 ct1 : Value}
    {f_copied : Addr} {od2 an2 : Option Addr} {sl2 : Array (Option Value)} {oc2 kV2 dc2 pm2 cd2 ct2 : Value}
    {f_law_cell : Addr} {od3 an3 : Option Addr} {sl3 : Array (Option Value)} {oc3 kV3 dc3 pm3 cd3 ct3 : Value}
    {f_law_row : Addr} {od4 an4 : Option Addr} {sl4 : Array (Option Value)} {oc4 kV4 dc4 pm4 cd4 ct4 : Value}
    {f_law_front : Addr} {od5 an5 : Option Addr} {sl5 : Array (Option Value)} {oc5 kV5 dc5 pm5 cd5 ct5 : Value}
    {f_law_asked : Addr} {od6 an6 : Option Addr} {sl6 : Array (Option Value)} {oc6 kV6 dc6 pm6 cd6 ct6 : Value}
    {f_law_give : Addr} {od7 an7 : Option Addr} {sl7 : Array (Option Value)} {oc7 kV7 dc7 pm7 cd7 ct7 : Value}
    {f_law_send : Addr} {od8 an8 : Option Addr} {sl8 : Array (Option Value)} {oc8 kV8 dc8 pm8 cd8 ct8 : Value}
    {f_law_ask : Addr} {od9 an9 : Option Addr} {sl9 : Array (Option Value)} {oc9 kV9 dc9 pm9 cd9 ct9 : Value}
    {f_law_hover : Addr} {od10 an10 : Option Addr} {sl10 : Array (Option Value)} {oc10 kV10 dc10 pm10 cd10 ct10 : Value}
    {f_law_end : Addr} {od11 an11 : Option Addr} {sl11 : Array (Option Value)} {oc11 kV11 dc11 pm11 cd11 ct11 : Value}
    {f_law_same : Addr} {od12 an12 : Option Addr} {sl12 : Array (Option Value)} {oc12 kV12 dc12 pm12 cd12 ct12 : Value}
    {flaw : Addr} {od13 an13 : Option Addr} {sl13 : Array (Option Value)} {oc13 kV13 dc13 pm13 cd13 ct13 : Value}
    {fAsked___init__ : Addr} {od14 an14 : Option Addr} {sl14 : Array (Option Value)} {oc14 kV14 dc14 pm14 cd14 ct14 : Value}
    {fExchange___init__ : Addr} {od15 an15 : Option Addr} {sl15 : Array (Option Value)} {oc15 kV15 dc15 pm15 cd15 ct15 : Value}
    {fExchange_give : Addr} {od16 an16 : Option Addr} {sl16 : Array (Option Value)} {oc16 kV16 dc16 pm16 cd16 ct16 : Value}
    {fExchange_drag : Addr} {od17 an17 : Option Addr} {sl17 : Array (Option Value)} {oc17 kV17 dc17 pm17 cd17 ct17 : Value}
    {fExchange_send : Addr} {od18 an18 : Option Addr} {sl18 : Array (Option Value)} {oc18 kV18 dc18 pm18 cd18 ct18 : Value}
    {fExchange_unsend : Addr} {od19 an19 : Option Addr} {sl19 : Array (Option Value)} {oc19 kV19 dc19 pm19 cd19 ct19 : Value}
    {fExchange_ask : Addr} {od20 an20 : Option Addr} {sl20 : Array (Option Value)} {oc20 kV20 dc20 pm20 cd20 ct20 : Value}
    {fExchange_hover : Addr} {od21 an21 : Option Addr} {sl21 : Array (Option Value)} {oc21 kV21 dc21 pm21 cd21 ct21 : Value}
    {fExchange_ended : Addr} {od22 an22 : Option Addr} {sl22 : Array (Option Value)} {oc22 kV22 dc22 pm22 cd22 ct22 : Value}
    {fExchange_relabelled : Addr} {od23 an23 : Option Addr} {sl23 : Array (Option Value)} {oc23 kV23 dc23 pm23 cd23 ct23 : Value}
    {fExchange_withdraw : Addr} {od24 an24 : Option Addr} {sl24 : Array (Option Value)} {oc24 kV24 dc24 pm24 cd24 ct24 : Value}
    {CAsked : Addr}
    {CExchange : Addr}
    (a1 : PySem.W.nsIn K mainGlobals "_of_others" = some (some (.ref f_of_others)))
    (l1 : K.lookup f_of_others = some ⟨oc1, od1, .func (PySem.W.fnOf "_of_others" "_of_others" (defArgs s__of_others) (defBody s__of_others) (defScope s__of_others) .none kV1 dc1 pm1 an1 cd1 ct1), sl1⟩) (c1 : PySem.W.codeIn K cd1 "_of_others" = true) (k1 : PySem.W.keepIn K (.ref f_of_others) = true)
    (a2 : PySem.W.nsIn K mainGlobals "_copied" = some (some (.ref f_copied)))
    (l2 : K.lookup f_copied = some ⟨oc2, od2, .func (PySem.W.fnOf "_copied" "_copied" (defArgs s__copied) (defBody s__copied) (defScope s__copied) .none kV2 dc2 pm2 an2 cd2 ct2), sl2⟩) (c2 : PySem.W.codeIn K cd2 "_copied" = true) (k2 : PySem.W.keepIn K (.ref f_copied) = true)
    (a3 : PySem.W.nsIn K mainGlobals "_law_cell" = some (some (.ref f_law_cell)))
    (l3 : K.lookup f_law_cell = some ⟨oc3, od3, .func (PySem.W.fnOf "_law_cell" "_law_cell" (defArgs s__law_cell) (defBody s__law_cell) (defScope s__law_cell) .none kV3 dc3 pm3 an3 cd3 ct3), sl3⟩) (c3 : PySem.W.codeIn K cd3 "_law_cell" = true) (k3 : PySem.W.keepIn K (.ref f_law_cell) = true)
    (a4 : PySem.W.nsIn K mainGlobals "_law_row" = some (some (.ref f_law_row)))
    (l4 : K.lookup f_law_row = some ⟨oc4, od4, .func (PySem.W.fnOf "_law_row" "_law_row" (defArgs s__law_row) (defBody s__law_row) (defScope s__law_row) .none kV4 dc4 pm4 an4 cd4 ct4), sl4⟩) (c4 : PySem.W.codeIn K cd4 "_law_row" = true) (k4 : PySem.W.keepIn K (.ref f_law_row) = true)
    (a5 : PySem.W.nsIn K mainGlobals "_law_front" = some (some (.ref f_law_front)))
    (l5 : K.lookup f_law_front = some ⟨oc5, od5, .func (PySem.W.fnOf "_law_front" "_law_front" (defArgs s__law_front) (defBody s__law_front) (defScope s__law_front) .none kV5 dc5 pm5 an5 cd5 ct5), sl5⟩) (c5 : PySem.W.codeIn K cd5 "_law_front" = true) (k5 : PySem.W.keepIn K (.ref f_law_front) = true)
    (a6 : PySem.W.nsIn K mainGlobals "_law_asked" = some (some (.ref f_law_asked)))
    (l6 : K.lookup f_law_asked = some ⟨oc6, od6, .func (PySem.W.fnOf "_law_asked" "_law_asked" (defArgs s__law_asked) (defBody s__law_asked) (defScope s__law_asked) .none kV6 dc6 pm6 an6 cd6 ct6), sl6⟩) (c6 : PySem.W.codeIn K cd6 "_law_asked" = true) (k6 : PySem.W.keepIn K (.ref f_law_asked) = true)
    (a7 : PySem.W.nsIn K mainGlobals "_law_give" = some (some (.ref f_law_give)))
    (l7 : K.lookup f_law_give = some ⟨oc7, od7, .func (PySem.W.fnOf "_law_give" "_law_give" (defArgs s__law_give) (defBody s__law_give) (defScope s__law_give) .none kV7 dc7 pm7 an7 cd7 ct7), sl7⟩) (c7 : PySem.W.codeIn K cd7 "_law_give" = true) (k7 : PySem.W.keepIn K (.ref f_law_give) = true)
    (a8 : PySem.W.nsIn K mainGlobals "_law_send" = some (some (.ref f_law_send)))
    (l8 : K.lookup f_law_send = some ⟨oc8, od8, .func (PySem.W.fnOf "_law_send" "_law_send" (defArgs s__law_send) (defBody s__law_send) (defScope s__law_send) .none kV8 dc8 pm8 an8 cd8 ct8), sl8⟩) (c8 : PySem.W.codeIn K cd8 "_law_send" = true) (k8 : PySem.W.keepIn K (.ref f_law_send) = true)
    (a9 : PySem.W.nsIn K mainGlobals "_law_ask" = some (some (.ref f_law_ask)))
    (l9 : K.lookup f_law_ask = some ⟨oc9, od9, .func (PySem.W.fnOf "_law_ask" "_law_ask" (defArgs s__law_ask) (defBody s__law_ask) (defScope s__law_ask) .none kV9 dc9 pm9 an9 cd9 ct9), sl9⟩) (c9 : PySem.W.codeIn K cd9 "_law_ask" = true) (k9 : PySem.W.keepIn K (.ref f_law_ask) = true)
    (a10 : PySem.W.nsIn K mainGlobals "_law_hover" = some (some (.ref f_law_hover)))
    (l10 : K.lookup f_law_hover = some ⟨oc10, od10, .func (PySem.W.fnOf "_law_hover" "_law_hover" (defArgs s__law_hover) (defBody s__law_hover) (defScope s__law_hover) .none kV10 dc10 pm10 an10 cd10 ct10), sl10⟩) (c10 : PySem.W.codeIn K cd10 "_law_hover" = true) (k10 : PySem.W.keepIn K (.ref f_law_hover) = true)
    (a11 : PySem.W.nsIn K mainGlobals "_law_end" = some (some (.ref f_law_end)))
    (l11 : K.lookup f_law_end = some ⟨oc11, od11, .func (PySem.W.fnOf "_law_end" "_law_end" (defArgs s__law_end) (defBody s__law_end) (defScope s__law_end) .none kV11 dc11 pm11 an11 cd11 ct11), sl11⟩) (c11 : PySem.W.codeIn K cd11 "_law_end" = true) (k11 : PySem.W.keepIn K (.ref f_law_end) = true)
    (a12 : PySem.W.nsIn K mainGlobals "_law_same" = some (some (.ref f_law_same)))
    (l12 : K.lookup f_law_same = some ⟨oc12, od12, .func (PySem.W.fnOf "_law_same" "_law_same" (defArgs s__law_same) (defBody s__law_same) (defScope s__law_same) .none kV12 dc12 pm12 an12 cd12 ct12), sl12⟩) (c12 : PySem.W.codeIn K cd12 "_law_same" = true) (k12 : PySem.W.keepIn K (.ref f_law_same) = true)
    (a13 : PySem.W.nsIn K mainGlobals "law" = some (some (.ref flaw)))
    (l13 : K.lookup flaw = some ⟨oc13, od13, .func (PySem.W.fnOf "law" "law" (defArgs s_law) (defBody s_law) (defScope s_law) .none kV13 dc13 pm13 an13 cd13 ct13), sl13⟩) (c13 : PySem.W.codeIn K cd13 "law" = true) (k13 : PySem.W.keepIn K (.ref flaw) = true)
    (a14 : PySem.W.findIn K (.ref CAsked) "__init__" = some (some (.ref fAsked___init__)))
    (i14 : PySem.W.isFn K (.ref fAsked___init__) = true)
    (l14 : K.lookup fAsked___init__ = some ⟨oc14, od14, .func (PySem.W.fnOf "__init__" "Asked.__init__" (defArgs s_Asked___init__) (defBody s_Asked___init__) (defScope s_Asked___init__) .none kV14 dc14 pm14 an14 cd14 ct14), sl14⟩) (c14 : PySem.W.codeIn K cd14 "Asked.__init__" = true) (k14 : PySem.W.keepIn K (.ref fAsked___init__) = true)
    (a15 : PySem.W.findIn K (.ref CExchange) "__init__" = some (some (.ref fExchange___init__)))
    (i15 : PySem.W.isFn K (.ref fExchange___init__) = true)
    (l15 : K.lookup fExchange___init__ = some ⟨oc15, od15, .func (PySem.W.fnOf "__init__" "Exchange.__init__" (defArgs s_Exchange___init__) (defBody s_Exchange___init__) (defScope s_Exchange___init__) .none kV15 dc15 pm15 an15 cd15 ct15), sl15⟩) (c15 : PySem.W.codeIn K cd15 "Exchange.__init__" = true) (k15 : PySem.W.keepIn K (.ref fExchange___init__) = true)
    (a16 : PySem.W.findIn K (.ref CExchange) "give" = some (some (.ref fExchange_give)))
    (i16 : PySem.W.isFn K (.ref fExchange_give) = true)
    (l16 : K.lookup fExchange_give = some ⟨oc16, od16, .func (PySem.W.fnOf "give" "Exchange.give" (defArgs s_Exchange_give) (defBody s_Exchange_give) (defScope s_Exchange_give) .none kV16 dc16 pm16 an16 cd16 ct16), sl16⟩) (c16 : PySem.W.codeIn K cd16 "Exchange.give" = true) (k16 : PySem.W.keepIn K (.ref fExchange_give) = true)
    (a17 : PySem.W.findIn K (.ref CExchange) "drag" = some (some (.ref fExchange_drag)))
    (i17 : PySem.W.isFn K (.ref fExchange_drag) = true)
    (l17 : K.lookup fExchange_drag = some ⟨oc17, od17, .func (PySem.W.fnOf "drag" "Exchange.drag" (defArgs s_Exchange_drag) (defBody s_Exchange_drag) (defScope s_Exchange_drag) .none kV17 dc17 pm17 an17 cd17 ct17), sl17⟩) (c17 : PySem.W.codeIn K cd17 "Exchange.drag" = true) (k17 : PySem.W.keepIn K (.ref fExchange_drag) = true)
    (a18 : PySem.W.findIn K (.ref CExchange) "send" = some (some (.ref fExchange_send)))
    (i18 : PySem.W.isFn K (.ref fExchange_send) = true)
    (l18 : K.lookup fExchange_send = some ⟨oc18, od18, .func (PySem.W.fnOf "send" "Exchange.send" (defArgs s_Exchange_send) (defBody s_Exchange_send) (defScope s_Exchange_send) .none kV18 dc18 pm18 an18 cd18 ct18), sl18⟩) (c18 : PySem.W.codeIn K cd18 "Exchange.send" = true) (k18 : PySem.W.keepIn K (.ref fExchange_send) = true)
    (a19 : PySem.W.findIn K (.ref CExchange) "unsend" = some (some (.ref fExchange_unsend)))
    (i19 : PySem.W.isFn K (.ref fExchange_unsend) = true)
    (l19 : K.lookup fExchange_unsend = some ⟨oc19, od19, .func (PySem.W.fnOf "unsend" "Exchange.unsend" (defArgs s_Exchange_unsend) (defBody s_Exchange_unsend) (defScope s_Exchange_unsend) .none kV19 dc19 pm19 an19 cd19 ct19), sl19⟩) (c19 : PySem.W.codeIn K cd19 "Exchange.unsend" = true) (k19 : PySem.W.keepIn K (.ref fExchange_unsend) = true)
    (a20 : PySem.W.findIn K (.ref CExchange) "ask" = some (some (.ref fExchange_ask)))
    (i20 : PySem.W.isFn K (.ref fExchange_ask) = true)
    (l20 : K.lookup fExchange_ask = some ⟨oc20, od20, .func (PySem.W.fnOf "ask" "Exchange.ask" (defArgs s_Exchange_ask) (defBody s_Exchange_ask) (defScope s_Exchange_ask) .none kV20 dc20 pm20 an20 cd20 ct20), sl20⟩) (c20 : PySem.W.codeIn K cd20 "Exchange.ask" = true) (k20 : PySem.W.keepIn K (.ref fExchange_ask) = true)
    (a21 : PySem.W.findIn K (.ref CExchange) "hover" = some (some (.ref fExchange_hover)))
    (i21 : PySem.W.isFn K (.ref fExchange_hover) = true)
    (l21 : K.lookup fExchange_hover = some ⟨oc21, od21, .func (PySem.W.fnOf "hover" "Exchange.hover" (defArgs s_Exchange_hover) (defBody s_Exchange_hover) (defScope s_Exchange_hover) .none kV21 dc21 pm21 an21 cd21 ct21), sl21⟩) (c21 : PySem.W.codeIn K cd21 "Exchange.hover" = true) (k21 : PySem.W.keepIn K (.ref fExchange_hover) = true)
    (a22 : PySem.W.findIn K (.ref CExchange) "ended" = some (some (.ref fExchange_ended)))
    (i22 : PySem.W.isFn K (.ref fExchange_ended) = true)
    (l22 : K.lookup fExchange_ended = some ⟨oc22, od22, .func (PySem.W.fnOf "ended" "Exchange.ended" (defArgs s_Exchange_ended) (defBody s_Exchange_ended) (defScope s_Exchange_ended) .none kV22 dc22 pm22 an22 cd22 ct22), sl22⟩) (c22 : PySem.W.codeIn K cd22 "Exchange.ended" = true) (k22 : PySem.W.keepIn K (.ref fExchange_ended) = true)
    (a23 : PySem.W.findIn K (.ref CExchange) "relabelled" = some (some (.ref fExchange_relabelled)))
    (i23 : PySem.W.isFn K (.ref fExchange_relabelled) = true)
    (l23 : K.lookup fExchange_relabelled = some ⟨oc23, od23, .func (PySem.W.fnOf "relabelled" "Exchange.relabelled" (defArgs s_Exchange_relabelled) (defBody s_Exchange_relabelled) (defScope s_Exchange_relabelled) .none kV23 dc23 pm23 an23 cd23 ct23), sl23⟩) (c23 : PySem.W.codeIn K cd23 "Exchange.relabelled" = true) (k23 : PySem.W.keepIn K (.ref fExchange_relabelled) = true)
    (a24 : PySem.W.findIn K (.ref CExchange) "withdraw" = some (some (.ref fExchange_withdraw)))
    (i24 : PySem.W.isFn K (.ref fExchange_withdraw) = true)
    (l24 : K.lookup fExchange_withdraw = some ⟨oc24, od24, .func (PySem.W.fnOf "withdraw" "Exchange.withdraw" (defArgs s_Exchange_withdraw) (defBody s_Exchange_withdraw) (defScope s_Exchange_withdraw) .none kV24 dc24 pm24 an24 cd24 ct24), sl24⟩) (c24 : PySem.W.codeIn K cd24 "Exchange.withdraw" = true) (k24 : PySem.W.keepIn K (.ref fExchange_withdraw) = true)
    (z_int : PySem.W.nsIn K mainGlobals "int" = some none)
    (z_len : PySem.W.nsIn K mainGlobals "len" = some none)
    (z_list : PySem.W.nsIn K mainGlobals "list" = some none)
    (z_min : PySem.W.nsIn K mainGlobals "min" = some none)
    (z_range : PySem.W.nsIn K mainGlobals "range" = some none)
    (z_str : PySem.W.nsIn K mainGlobals "str" = some none)
    (uAsked : PySem.W.nsIn K mainGlobals "Asked" = some (some (.ref CAsked)))
    (pgAsked : PySem.W.plainGet K CAsked Str.empty = true) (hdAsked : PySem.W.hasDictIn K CAsked = true) (poAsked : PySem.W.plainOver K CAsked = true) (saAsked : PySem.W.findIn K (.ref CAsked) "__setattr__" = some (some (.builtin "object.__setattr__"))) (mkAsked : PySem.W.makesIn K CAsked = true) (kcAsked : PySem.W.keepIn K (.ref CAsked) = true)
    (nAsked_number : PySem.W.findIn K (.ref CAsked) "number" = some none)
    (nAsked_slot : PySem.W.findIn K (.ref CAsked) "slot" = some none)
    (nAsked_capture : PySem.W.findIn K (.ref CAsked) "capture" = some none)
    (nAsked_output : PySem.W.findIn K (.ref CAsked) "output" = some none)
    (nAsked_x : PySem.W.findIn K (.ref CAsked) "x" = some none)
    (nAsked_y : PySem.W.findIn K (.ref CAsked) "y" = some none)
    (nAsked_width : PySem.W.findIn K (.ref CAsked) "width" = some none)
    (nAsked_height : PySem.W.findIn K (.ref CAsked) "height" = some none)
    (uExchange : PySem.W.nsIn K mainGlobals "Exchange" = some (some (.ref CExchange)))
    (pgExchange : PySem.W.plainGet K CExchange Str.empty = true) (hdExchange : PySem.W.hasDictIn K CExchange = true) (poExchange : PySem.W.plainOver K CExchange = true) (saExchange : PySem.W.findIn K (.ref CExchange) "__setattr__" = some (some (.builtin "object.__setattr__"))) (mkExchange : PySem.W.makesIn K CExchange = true) (kcExchange : PySem.W.keepIn K (.ref CExchange) = true)
    (nExchange_gifts : PySem.W.findIn K (.ref CExchange) "gifts" = some none)
    (nExchange_primary : PySem.W.findIn K (.ref CExchange) "primary" = some none)
    (nExchange_drags : PySem.W.findIn K (.ref CExchange) "drags" = some none)
    (nExchange_sent : PySem.W.findIn K (.ref CExchange) "sent" = some none)
    (nExchange_asked : PySem.W.findIn K (.ref CExchange) "asked" = some none)
    (nExchange_count : PySem.W.findIn K (.ref CExchange) "count" = some none)
    (nExchange_hovered : PySem.W.findIn K (.ref CExchange) "hovered" = some none)
    : ∃ A : Adr, A.flaw = fa ∧ Txt K mg A ∧ (∀ (s : Shared) (v : Value), BindsTo s A.dlaw ⟨[v], []⟩ [("script", v)]) := by
  have e := hfa.symm.trans (PySem.W.mg_of X G a13)
  cases e
  have F1 := fun_mk (st := s__of_others) l1 c1 k1
  have b1 := F1.binds (ps := ["rows", "slot"]) fun _ _ _ _ _ _ us hl => match us, hl with | [_, _], _ => rfl
  have F2 := fun_mk (st := s__copied) l2 c2 k2
  have b2 := F2.binds (ps := ["goods"]) fun _ _ _ _ _ _ us hl => match us, hl with | [_], _ => rfl
  have F3 := fun_mk (st := s__law_cell) l3 c3 k3
  have b3 := F3.binds (ps := ["script", "k"]) fun _ _ _ _ _ _ us hl => match us, hl with | [_, _], _ => rfl
  have F4 := fun_mk (st := s__law_row) l4 c4 k4
  have b4 := F4.binds (ps := ["script", "k"]) fun _ _ _ _ _ _ us hl => match us, hl with | [_, _], _ => rfl
  have F5 := fun_mk (st := s__law_front) l5 c5 k5
  have b5 := F5.binds (ps := ["rows", "slot", "goods"]) fun _ _ _ _ _ _ us hl => match us, hl with | [_, _, _], _ => rfl
  have F6 := fun_mk (st := s__law_asked) l6 c6 k6
  have b6 := F6.binds (ps := ["exchange"]) fun _ _ _ _ _ _ us hl => match us, hl with | [_], _ => rfl
  have F7 := fun_mk (st := s__law_give) l7 c7 k7
  have b7 := F7.binds (ps := ["exchange", "model", "deed", "slot", "row"]) fun _ _ _ _ _ _ us hl => match us, hl with | [_, _, _, _, _], _ => rfl
  have F8 := fun_mk (st := s__law_send) l8 c8 k8
  have b8 := F8.binds (ps := ["exchange", "model", "deed", "slot", "row"]) fun _ _ _ _ _ _ us hl => match us, hl with | [_, _, _, _, _], _ => rfl
  have F9 := fun_mk (st := s__law_ask) l9 c9 k9
  have b9 := F9.binds (ps := ["exchange", "model", "deed", "slot", "row"]) fun _ _ _ _ _ _ us hl => match us, hl with | [_, _, _, _, _], _ => rfl
  have F10 := fun_mk (st := s__law_hover) l10 c10 k10
  have b10 := F10.binds (ps := ["exchange", "model", "slot", "row"]) fun _ _ _ _ _ _ us hl => match us, hl with | [_, _, _, _], _ => rfl
  have F11 := fun_mk (st := s__law_end) l11 c11 k11
  have b11 := F11.binds (ps := ["exchange", "model", "deed", "slot"]) fun _ _ _ _ _ _ us hl => match us, hl with | [_, _, _, _], _ => rfl
  have F12 := fun_mk (st := s__law_same) l12 c12 k12
  have b12 := F12.binds (ps := ["exchange", "model"]) fun _ _ _ _ _ _ us hl => match us, hl with | [_, _], _ => rfl
  have F13 := fun_mk (st := s_law) l13 c13 k13
  have b13 := F13.binds (ps := ["script"]) fun _ _ _ _ _ _ us hl => match us, hl with | [_], _ => rfl
  have F14 := fun_mk (st := s_Asked___init__) l14 c14 k14
  have b14 := F14.binds (ps := ["self", "number", "slot", "capture", "output", "x", "y", "width", "height"]) fun _ _ _ _ _ _ us hl => match us, hl with | [_, _, _, _, _, _, _, _, _], _ => rfl
  have F15 := fun_mk (st := s_Exchange___init__) l15 c15 k15
  have b15 := F15.binds (ps := ["self"]) fun _ _ _ _ _ _ us hl => match us, hl with | [_], _ => rfl
  have F16 := fun_mk (st := s_Exchange_give) l16 c16 k16
  have b16 := F16.binds (ps := ["self", "slot", "goods", "primary"]) fun _ _ _ _ _ _ us hl => match us, hl with | [_, _, _, _], _ => rfl
  have F17 := fun_mk (st := s_Exchange_drag) l17 c17 k17
  have b17 := F17.binds (ps := ["self", "slot", "goods"]) fun _ _ _ _ _ _ us hl => match us, hl with | [_, _, _], _ => rfl
  have F18 := fun_mk (st := s_Exchange_send) l18 c18 k18
  have b18 := F18.binds (ps := ["self", "slot", "name", "octets"]) fun _ _ _ _ _ _ us hl => match us, hl with | [_, _, _, _], _ => rfl
  have F19 := fun_mk (st := s_Exchange_unsend) l19 c19 k19
  have b19 := F19.binds (ps := ["self", "slot", "name"]) fun _ _ _ _ _ _ us hl => match us, hl with | [_, _, _], _ => rfl
  have F20 := fun_mk (st := s_Exchange_ask) l20 c20 k20
  have b20 := F20.binds (ps := ["self", "slot", "capture", "output", "x", "y", "width", "height"]) fun _ _ _ _ _ _ us hl => match us, hl with | [_, _, _, _, _, _, _, _], _ => rfl
  have F21 := fun_mk (st := s_Exchange_hover) l21 c21 k21
  have b21 := F21.binds (ps := ["self", "target"]) fun _ _ _ _ _ _ us hl => match us, hl with | [_, _], _ => rfl
  have F22 := fun_mk (st := s_Exchange_ended) l22 c22 k22
  have b22 := F22.binds (ps := ["self", "slot"]) fun _ _ _ _ _ _ us hl => match us, hl with | [_, _], _ => rfl
  have F23 := fun_mk (st := s_Exchange_relabelled) l23 c23 k23
  have b23 := F23.binds (ps := ["self", "slot"]) fun _ _ _ _ _ _ us hl => match us, hl with | [_, _], _ => rfl
  have F24 := fun_mk (st := s_Exchange_withdraw) l24 c24 k24
  have b24 := F24.binds (ps := ["self", "slot", "capture"]) fun _ _ _ _ _ _ us hl => match us, hl with | [_, _, _], _ => rfl
  refine ⟨{ f_of_others := f_of_others, d_of_others := (PySem.W.fnOf "_of_others" "_of_others" (defArgs s__of_others) (defBody s__of_others) (defScope s__of_others) .none kV1 dc1 pm1 an1 cd1 ct1), f_copied := f_copied, d_copied := (PySem.W.fnOf "_copied" "_copied" (defArgs s__copied) (defBody s__copied) (defScope s__copied) .none kV2 dc2 pm2 an2 cd2 ct2), f_law_cell := f_law_cell, d_law_cell := (PySem.W.fnOf "_law_cell" "_law_cell" (defArgs s__law_cell) (defBody s__law_cell) (defScope s__law_cell) .none kV3 dc3 pm3 an3 cd3 ct3), f_law_row := f_law_row, d_law_row := (PySem.W.fnOf "_law_row" "_law_row" (defArgs s__law_row) (defBody s__law_row) (defScope s__law_row) .none kV4 dc4 pm4 an4 cd4 ct4), f_law_front := f_law_front, d_law_front := (PySem.W.fnOf "_law_front" "_law_front" (defArgs s__law_front) (defBody s__law_front) (defScope s__law_front) .none kV5 dc5 pm5 an5 cd5 ct5), f_law_asked := f_law_asked, d_law_asked := (PySem.W.fnOf "_law_asked" "_law_asked" (defArgs s__law_asked) (defBody s__law_asked) (defScope s__law_asked) .none kV6 dc6 pm6 an6 cd6 ct6), f_law_give := f_law_give, d_law_give := (PySem.W.fnOf "_law_give" "_law_give" (defArgs s__law_give) (defBody s__law_give) (defScope s__law_give) .none kV7 dc7 pm7 an7 cd7 ct7), f_law_send := f_law_send, d_law_send := (PySem.W.fnOf "_law_send" "_law_send" (defArgs s__law_send) (defBody s__law_send) (defScope s__law_send) .none kV8 dc8 pm8 an8 cd8 ct8), f_law_ask := f_law_ask, d_law_ask := (PySem.W.fnOf "_law_ask" "_law_ask" (defArgs s__law_ask) (defBody s__law_ask) (defScope s__law_ask) .none kV9 dc9 pm9 an9 cd9 ct9), f_law_hover := f_law_hover, d_law_hover := (PySem.W.fnOf "_law_hover" "_law_hover" (defArgs s__law_hover) (defBody s__law_hover) (defScope s__law_hover) .none kV10 dc10 pm10 an10 cd10 ct10), f_law_end := f_law_end, d_law_end := (PySem.W.fnOf "_law_end" "_law_end" (defArgs s__law_end) (defBody s__law_end) (defScope s__law_end) .none kV11 dc11 pm11 an11 cd11 ct11), f_law_same := f_law_same, d_law_same := (PySem.W.fnOf "_law_same" "_law_same" (defArgs s__law_same) (defBody s__law_same) (defScope s__law_same) .none kV12 dc12 pm12 an12 cd12 ct12), flaw := fa, dlaw := (PySem.W.fnOf "law" "law" (defArgs s_law) (defBody s_law) (defScope s_law) .none kV13 dc13 pm13 an13 cd13 ct13), fAsked___init__ := fAsked___init__, dAsked___init__ := (PySem.W.fnOf "__init__" "Asked.__init__" (defArgs s_Asked___init__) (defBody s_Asked___init__) (defScope s_Asked___init__) .none kV14 dc14 pm14 an14 cd14 ct14), fExchange___init__ := fExchange___init__, dExchange___init__ := (PySem.W.fnOf "__init__" "Exchange.__init__" (defArgs s_Exchange___init__) (defBody s_Exchange___init__) (defScope s_Exchange___init__) .none kV15 dc15 pm15 an15 cd15 ct15), fExchange_give := fExchange_give, dExchange_give := (PySem.W.fnOf "give" "Exchange.give" (defArgs s_Exchange_give) (defBody s_Exchange_give) (defScope s_Exchange_give) .none kV16 dc16 pm16 an16 cd16 ct16), fExchange_drag := fExchange_drag, dExchange_drag := (PySem.W.fnOf "drag" "Exchange.drag" (defArgs s_Exchange_drag) (defBody s_Exchange_drag) (defScope s_Exchange_drag) .none kV17 dc17 pm17 an17 cd17 ct17), fExchange_send := fExchange_send, dExchange_send := (PySem.W.fnOf "send" "Exchange.send" (defArgs s_Exchange_send) (defBody s_Exchange_send) (defScope s_Exchange_send) .none kV18 dc18 pm18 an18 cd18 ct18), fExchange_unsend := fExchange_unsend, dExchange_unsend := (PySem.W.fnOf "unsend" "Exchange.unsend" (defArgs s_Exchange_unsend) (defBody s_Exchange_unsend) (defScope s_Exchange_unsend) .none kV19 dc19 pm19 an19 cd19 ct19), fExchange_ask := fExchange_ask, dExchange_ask := (PySem.W.fnOf "ask" "Exchange.ask" (defArgs s_Exchange_ask) (defBody s_Exchange_ask) (defScope s_Exchange_ask) .none kV20 dc20 pm20 an20 cd20 ct20), fExchange_hover := fExchange_hover, dExchange_hover := (PySem.W.fnOf "hover" "Exchange.hover" (defArgs s_Exchange_hover) (defBody s_Exchange_hover) (defScope s_Exchange_hover) .none kV21 dc21 pm21 an21 cd21 ct21), fExchange_ended := fExchange_ended, dExchange_ended := (PySem.W.fnOf "ended" "Exchange.ended" (defArgs s_Exchange_ended) (defBody s_Exchange_ended) (defScope s_Exchange_ended) .none kV22 dc22 pm22 an22 cd22 ct22), fExchange_relabelled := fExchange_relabelled, dExchange_relabelled := (PySem.W.fnOf "relabelled" "Exchange.relabelled" (defArgs s_Exchange_relabelled) (defBody s_Exchange_relabelled) (defScope s_Exchange_relabelled) .none kV23 dc23 pm23 an23 cd23 ct23), fExchange_withdraw := fExchange_withdraw, dExchange_withdraw := (PySem.W.fnOf "withdraw" "Exchange.withdraw" (defArgs s_Exchange_withdraw) (defBody s_Exchange_withdraw) (defScope s_Exchange_withdraw) .none kV24 dc24 pm24 an24 cd24 ct24), CAsked := CAsked, CExchange := CExchange }, rfl, { F_of_others := F1, b_of_others := b1, g_of_others := PySem.W.mg_of X G a1, k_of_others := k1, F_copied := F2, b_copied := b2, g_copied := PySem.W.mg_of X G a2, k_copied := k2, F_law_cell := F3, b_law_cell := b3, g_law_cell := PySem.W.mg_of X G a3, k_law_cell := k3, F_law_row := F4, b_law_row := b4, g_law_row := PySem.W.mg_of X G a4, k_law_row := k4, F_law_front := F5, b_law_front := b5, g_law_front := PySem.W.mg_of X G a5, k_law_front := k5, F_law_asked := F6, b_law_asked := b6, g_law_asked := PySem.W.mg_of X G a6, k_law_asked := k6, F_law_give := F7, b_law_give := b7, g_law_give := PySem.W.mg_of X G a7, k_law_give := k7, F_law_send := F8, b_law_send := b8, g_law_send := PySem.W.mg_of X G a8, k_law_send := k8, F_law_ask := F9, b_law_ask := b9, g_law_ask := PySem.W.mg_of X G a9, k_law_ask := k9, F_law_hover := F10, b_law_hover := b10, g_law_hover := PySem.W.mg_of X G a10, k_law_hover := k10, F_law_end := F11, b_law_end := b11, g_law_end := PySem.W.mg_of X G a11, k_law_end := k11, F_law_same := F12, b_law_same := b12, g_law_same := PySem.W.mg_of X G a12, k_law_same := k12, Flaw := F13, blaw := b13, glaw := PySem.W.mg_of X G a13, klaw := k13, FAsked___init__ := F14, bAsked___init__ := b14, MAsked := ⟨mkAsked, a14, i14, kcAsked⟩, FExchange___init__ := F15, bExchange___init__ := b15, MExchange := ⟨mkExchange, a15, i15, kcExchange⟩, FExchange_give := F16, bExchange_give := b16, mExchange_give := ⟨a16, i16, k16⟩, FExchange_drag := F17, bExchange_drag := b17, mExchange_drag := ⟨a17, i17, k17⟩, FExchange_send := F18, bExchange_send := b18, mExchange_send := ⟨a18, i18, k18⟩, FExchange_unsend := F19, bExchange_unsend := b19, mExchange_unsend := ⟨a19, i19, k19⟩, FExchange_ask := F20, bExchange_ask := b20, mExchange_ask := ⟨a20, i20, k20⟩, FExchange_hover := F21, bExchange_hover := b21, mExchange_hover := ⟨a21, i21, k21⟩, FExchange_ended := F22, bExchange_ended := b22, mExchange_ended := ⟨a22, i22, k22⟩, FExchange_relabelled := F23, bExchange_relabelled := b23, mExchange_relabelled := ⟨a23, i23, k23⟩, FExchange_withdraw := F24, bExchange_withdraw := b24, mExchange_withdraw := ⟨a24, i24, k24⟩, int := PySem.W.mg_none_of X G z_int, len := PySem.W.mg_none_of X G z_len, list := PySem.W.mg_none_of X G z_list, min := PySem.W.mg_none_of X G z_min, range := PySem.W.mg_none_of X G z_range, str := PySem.W.mg_none_of X G z_str, clAsked := ⟨pgAsked, hdAsked, poAsked, saAsked⟩, gAsked := PySem.W.mg_of X G uAsked, nAsked_number := nAsked_number, nAsked_slot := nAsked_slot, nAsked_capture := nAsked_capture, nAsked_output := nAsked_output, nAsked_x := nAsked_x, nAsked_y := nAsked_y, nAsked_width := nAsked_width, nAsked_height := nAsked_height, clExchange := ⟨pgExchange, hdExchange, poExchange, saExchange⟩, gExchange := PySem.W.mg_of X G uExchange, nExchange_gifts := nExchange_gifts, nExchange_primary := nExchange_primary, nExchange_drags := nExchange_drags, nExchange_sent := nExchange_sent, nExchange_asked := nExchange_asked, nExchange_count := nExchange_count, nExchange_hovered := nExchange_hovered }, fun s v => .of_eq rfl⟩
theorem walk {l : PySem.W.OpenLaw} {q : Program} {loose : List Str} {XP : (Str → Option Value) → Heap → Prop} {YP : World → Heap → Prop} {d : DefRec} {K : Params → PySem.W.Frag} (hn : l.most = some 63) (hdf : d.params.defaults = [])
    (hY : ∀ (w : World) (h : Heap), YP w h → (K w.params).In h)
    (F : ∀ (w : World) (mg : Str → Option Value) (fa : Addr) (h : Heap), (K w.params).In h → h.Ns mainGlobals mg → mg d.name = some (.ref fa) →
      ∃ A : Adr, A.flaw = fa ∧ Txt (K w.params) mg A ∧ (∀ (s : Shared) (v : Value), BindsTo s A.dlaw ⟨[v], []⟩ [("script", v)])) :
    PySem.W.WalkO q loose XP YP l.row.toRowW d [] (fun f vs => PySem.call f vs) :=
  L2.walk_of (n := 63) (k := 5) (x := "script") (CX := fun _ => CX0) (sp := fun w => sp_law (K w.params)) hn (by decide) hdf ⟨rfl, by decide, by decide⟩ hY (fun w mg fa h X G hfa => by
    obtain ⟨A, rfl, T, b⟩ := F w mg fa h X G hfa
    exact ⟨A.dlaw, b, fun base _ _ => ok_law T⟩) (fun _ _ a ns hl _ hS => ⟨a, ns, rfl, hS, hl, fun _ => rfl⟩) fun _ _ _ _ _ z => z
end My
open PySem PySem.W PyProof.Rows
set_option maxRecDepth 100000 in
set_option maxHeartbeats 0 in
theorem PySem.Challenge.cw_sillwatch_k59_exchange_deeds_holds : PySem.Challenge.rw_sillwatch_k59_exchange_deeds.Holds := by
  w_on; o_law; k_head; (case hw => w_witness2)
  k_fill
  refine My.walk (l := PySem.Challenge.rw_sillwatch_k59_exchange_deeds) rfl rfl (fun w h Y => PySem.W.kIn_of Y) ?F
  case F =>
    intro w mg fa h KX G hmg
    refine' My.all_mk KX G hmg ?a1 ?l1 ?c1 ?k1 ?a2 ?l2 ?c2 ?k2 ?a3 ?l3 ?c3 ?k3 ?a4 ?l4 ?c4 ?k4 ?a5 ?l5 ?c5 ?k5 ?a6 ?l6 ?c6 ?k6 ?a7 ?l7 ?c7 ?k7 ?a8 ?l8 ?c8 ?k8 ?a9 ?l9 ?c9 ?k9 ?a10 ?l10 ?c10 ?k10 ?a11 ?l11 ?c11 ?k11 ?a12 ?l12 ?c12 ?k12 ?a13 ?l13 ?c13 ?k13 ?a14 ?i14 ?l14 ?c14 ?k14 ?a15 ?i15 ?l15 ?c15 ?k15 ?a16 ?i16 ?l16 ?c16 ?k16 ?a17 ?i17 ?l17 ?c17 ?k17 ?a18 ?i18 ?l18 ?c18 ?k18 ?a19 ?i19 ?l19 ?c19 ?k19 ?a20 ?i20 ?l20 ?c20 ?k20 ?a21 ?i21 ?l21 ?c21 ?k21 ?a22 ?i22 ?l22 ?c22 ?k22 ?a23 ?i23 ?l23 ?c23 ?k23 ?a24 ?i24 ?l24 ?c24 ?k24 ?z_int ?z_len ?z_list ?z_min ?z_range ?z_str ?uAsked ?pgAsked ?hdAsked ?poAsked ?saAsked ?mkAsked ?kcAsked ?nAsked_number ?nAsked_slot ?nAsked_capture ?nAsked_output ?nAsked_x ?nAsked_y ?nAsked_width ?nAsked_height ?uExchange ?pgExchange ?hdExchange ?poExchange ?saExchange ?mkExchange ?kcExchange ?nExchange_gifts ?nExchange_primary ?nExchange_drags ?nExchange_sent ?nExchange_asked ?nExchange_count ?nExchange_hovered
    (case uAsked => k_is)
    (case uExchange => k_is)
    (case a1 => k_is)
    (case l1 => k_is)
    (case c1 => k_is)
    (case k1 => k_is)
    (case a2 => k_is)
    (case l2 => k_is)
    (case c2 => k_is)
    (case k2 => k_is)
    (case a3 => k_is)
    (case l3 => k_is)
    (case c3 => k_is)
    (case k3 => k_is)
    (case a4 => k_is)
    (case l4 => k_is)
    (case c4 => k_is)
    (case k4 => k_is)
    (case a5 => k_is)
    (case l5 => k_is)
    (case c5 => k_is)
    (case k5 => k_is)
    (case a6 => k_is)
    (case l6 => k_is)
    (case c6 => k_is)
    (case k6 => k_is)
    (case a7 => k_is)
    (case l7 => k_is)
    (case c7 => k_is)
    (case k7 => k_is)
    (case a8 => k_is)
    (case l8 => k_is)
    (case c8 => k_is)
    (case k8 => k_is)
    (case a9 => k_is)
    (case l9 => k_is)
    (case c9 => k_is)
    (case k9 => k_is)
    (case a10 => k_is)
    (case l10 => k_is)
    (case c10 => k_is)
    (case k10 => k_is)
    (case a11 => k_is)
    (case l11 => k_is)
    (case c11 => k_is)
    (case k11 => k_is)
    (case a12 => k_is)
    (case l12 => k_is)
    (case c12 => k_is)
    (case k12 => k_is)
    (case a13 => k_is)
    (case l13 => k_is)
    (case c13 => k_is)
    (case k13 => k_is)
    (case a14 => k_is)
    (case i14 => k_is)
    (case l14 => k_is)
    (case c14 => k_is)
    (case k14 => k_is)
    (case a15 => k_is)
    (case i15 => k_is)
    (case l15 => k_is)
    (case c15 => k_is)
    (case k15 => k_is)
    (case a16 => k_is)
    (case i16 => k_is)
    (case l16 => k_is)
    (case c16 => k_is)
    (case k16 => k_is)
    (case a17 => k_is)
    (case i17 => k_is)
    (case l17 => k_is)
    (case c17 => k_is)
    (case k17 => k_is)
    (case a18 => k_is)
    (case i18 => k_is)
    (case l18 => k_is)
    (case c18 => k_is)
    (case k18 => k_is)
    (case a19 => k_is)
    (case i19 => k_is)
    (case l19 => k_is)
    (case c19 => k_is)
    (case k19 => k_is)
    (case a20 => k_is)
    (case i20 => k_is)
    (case l20 => k_is)
    (case c20 => k_is)
    (case k20 => k_is)
    (case a21 => k_is)
    (case i21 => k_is)
    (case l21 => k_is)
    (case c21 => k_is)
    (case k21 => k_is)
    (case a22 => k_is)
    (case i22 => k_is)
    (case l22 => k_is)
    (case c22 => k_is)
    (case k22 => k_is)
    (case a23 => k_is)
    (case i23 => k_is)
    (case l23 => k_is)
    (case c23 => k_is)
    (case k23 => k_is)
    (case a24 => k_is)
    (case i24 => k_is)
    (case l24 => k_is)
    (case c24 => k_is)
    (case k24 => k_is)
    (case z_int => k_is)
    (case z_len => k_is)
    (case z_list => k_is)
    (case z_min => k_is)
    (case z_range => k_is)
    (case z_str => k_is)
    (case pgAsked => k_is)
    (case hdAsked => k_is)
    (case poAsked => k_is)
    (case saAsked => k_is)
    (case mkAsked => k_is)
    (case kcAsked => k_is)
    (case nAsked_number => k_is)
    (case nAsked_slot => k_is)
    (case nAsked_capture => k_is)
    (case nAsked_output => k_is)
    (case nAsked_x => k_is)
    (case nAsked_y => k_is)
    (case nAsked_width => k_is)
    (case nAsked_height => k_is)
    (case pgExchange => k_is)
    (case hdExchange => k_is)
    (case poExchange => k_is)
    (case saExchange => k_is)
    (case mkExchange => k_is)
    (case kcExchange => k_is)
    (case nExchange_gifts => k_is)
    (case nExchange_primary => k_is)
    (case nExchange_drags => k_is)
    (case nExchange_sent => k_is)
    (case nExchange_asked => k_is)
    (case nExchange_count => k_is)
    (case nExchange_hovered => k_is)
