import PyProof.Rows.All
import Wide.All
import OpenK.AllK
import Wide.FinOn
import HandS.ForMost
import HandS.Exc
import HandS.TryOnly
import HandS.ExcOwn
import HandS.WordsExc
import HandS.IsInst
import HandS.Wide
import HandS.Flow
import HandS.More
import HandS.Codes
import HandS.Walk
import HandS.TupLe
import HandS.WordsDict
import HandS.Conv
import HandS.TryMany
import HandS.ExcIs
import KE.KBits
import HandS.CallLocal
import HandS.Strs
import HandS.SetFor
import HandS.Set
import HandS.Property
import PySem.Challenge.RW_sillwatch_k08_cutter_in_portions
set_option Elab.async false
set_option linter.all false
set_option maxRecDepth 100000
set_option maxHeartbeats 4000000
namespace My
open PySem L2
def topS (i : Nat) : Stmt := PySem.Challenge.pw_sillwatch_k08_cutter_in_portions.main.body.getD i (.Pass ⟨0, 0, 0, 0⟩)
abbrev s_number_at : Stmt := topS 1
abbrev s_cut_messages : Stmt := topS 5
abbrev s_is_message_size : Stmt := topS 6
abbrev s__cut : Stmt := topS 8
abbrev s__law_cell : Stmt := topS 10
abbrev s__law_row : Stmt := topS 11
abbrev s__law_message : Stmt := topS 12
abbrev s__law_stream : Stmt := topS 13
abbrev s_law : Stmt := topS 15
abbrev s_Cutter___init__ : Stmt := inClass (topS 7) 0
abbrev s_Cutter_fault : Stmt := inClass (topS 7) 1
abbrev s_Cutter_uncut : Stmt := inClass (topS 7) 2
abbrev s_Cutter_feed : Stmt := inClass (topS 7) 3
structure Adr where
  fnumber_at : Addr
  dnumber_at : FuncData
  fcut_messages : Addr
  dcut_messages : FuncData
  fis_message_size : Addr
  dis_message_size : FuncData
  f_cut : Addr
  d_cut : FuncData
  f_law_cell : Addr
  d_law_cell : FuncData
  f_law_row : Addr
  d_law_row : FuncData
  f_law_message : Addr
  d_law_message : FuncData
  f_law_stream : Addr
  d_law_stream : FuncData
  flaw : Addr
  dlaw : FuncData
  fCutter___init__ : Addr
  dCutter___init__ : FuncData
  fCutter_fault : Addr
  dCutter_fault : FuncData
  pCutter_fault : Addr
  fCutter_uncut : Addr
  dCutter_uncut : FuncData
  pCutter_uncut : Addr
  fCutter_feed : Addr
  dCutter_feed : FuncData
  tHEADER_SIZE : Tok
  tGREATEST_SIZE : Tok
  CCutter : Addr
structure Txt (K : PySem.W.Frag) (mg : Str → Option Value) (A : Adr) : Prop where
  Fnumber_at : Fun K "number_at" "number_at" s_number_at A.fnumber_at A.dnumber_at
  bnumber_at : Binds K A.dnumber_at ["octets", "at", "count"] []
  gnumber_at : mg "number_at" = some (.ref A.fnumber_at)
  knumber_at : PySem.W.keepIn K (.ref A.fnumber_at) = true
  Fcut_messages : Fun K "cut_messages" "cut_messages" s_cut_messages A.fcut_messages A.dcut_messages
  bcut_messages : Binds K A.dcut_messages ["octets"] []
  gcut_messages : mg "cut_messages" = some (.ref A.fcut_messages)
  kcut_messages : PySem.W.keepIn K (.ref A.fcut_messages) = true
  Fis_message_size : Fun K "is_message_size" "is_message_size" s_is_message_size A.fis_message_size A.dis_message_size
  bis_message_size : Binds K A.dis_message_size ["size"] []
  gis_message_size : mg "is_message_size" = some (.ref A.fis_message_size)
  kis_message_size : PySem.W.keepIn K (.ref A.fis_message_size) = true
  F_cut : Fun K "_cut" "_cut" s__cut A.f_cut A.d_cut
  b_cut : Binds K A.d_cut ["octets"] []
  g_cut : mg "_cut" = some (.ref A.f_cut)
  k_cut : PySem.W.keepIn K (.ref A.f_cut) = true
  F_law_cell : Fun K "_law_cell" "_law_cell" s__law_cell A.f_law_cell A.d_law_cell
  b_law_cell : Binds K A.d_law_cell ["script", "k"] []
  g_law_cell : mg "_law_cell" = some (.ref A.f_law_cell)
  k_law_cell : PySem.W.keepIn K (.ref A.f_law_cell) = true
  F_law_row : Fun K "_law_row" "_law_row" s__law_row A.f_law_row A.d_law_row
  b_law_row : Binds K A.d_law_row ["script", "k"] []
  g_law_row : mg "_law_row" = some (.ref A.f_law_row)
  k_law_row : PySem.W.keepIn K (.ref A.f_law_row) = true
  F_law_message : Fun K "_law_message" "_law_message" s__law_message A.f_law_message A.d_law_message
  b_law_message : Binds K A.d_law_message ["row"] []
  g_law_message : mg "_law_message" = some (.ref A.f_law_message)
  k_law_message : PySem.W.keepIn K (.ref A.f_law_message) = true
  F_law_stream : Fun K "_law_stream" "_law_stream" s__law_stream A.f_law_stream A.d_law_stream
  b_law_stream : Binds K A.d_law_stream ["script", "count"] []
  g_law_stream : mg "_law_stream" = some (.ref A.f_law_stream)
  k_law_stream : PySem.W.keepIn K (.ref A.f_law_stream) = true
  Flaw : Fun K "law" "law" s_law A.flaw A.dlaw
  blaw : Binds K A.dlaw ["script"] []
  glaw : mg "law" = some (.ref A.flaw)
  klaw : PySem.W.keepIn K (.ref A.flaw) = true
  FCutter___init__ : Fun K "__init__" "Cutter.__init__" s_Cutter___init__ A.fCutter___init__ A.dCutter___init__
  bCutter___init__ : Binds K A.dCutter___init__ ["self"] []
  MCutter : Mk K A.CCutter A.fCutter___init__
  FCutter_fault : Fun K "fault" "Cutter.fault" s_Cutter_fault A.fCutter_fault A.dCutter_fault
  bCutter_fault : Binds K A.dCutter_fault ["self"] []
  pCutter_fault : PropOf K A.CCutter "fault" A.pCutter_fault A.fCutter_fault
  FCutter_uncut : Fun K "uncut" "Cutter.uncut" s_Cutter_uncut A.fCutter_uncut A.dCutter_uncut
  bCutter_uncut : Binds K A.dCutter_uncut ["self"] []
  pCutter_uncut : PropOf K A.CCutter "uncut" A.pCutter_uncut A.fCutter_uncut
  FCutter_feed : Fun K "feed" "Cutter.feed" s_Cutter_feed A.fCutter_feed A.dCutter_feed
  bCutter_feed : Binds K A.dCutter_feed ["self", "octets"] []
  mCutter_feed : Meth K A.CCutter "feed" A.fCutter_feed
  int : mg "int" = none
  len : mg "len" = none
  list : mg "list" = none
  min : mg "min" = none
  range : mg "range" = none
  sum : mg "sum" = none
  gHEADER_SIZE : mg "HEADER_SIZE" = some (.int (8) A.tHEADER_SIZE)
  gGREATEST_SIZE : mg "GREATEST_SIZE" = some (.int (20480) A.tGREATEST_SIZE)
  clCutter : Cls K A.CCutter
  gCutter : mg "Cutter" = some (.ref A.CCutter)
  nCutter__octets : NoAttr K A.CCutter "_octets"
  nCutter__fault : NoAttr K A.CCutter "_fault"
section
variable {P : Program} {w : World} {K : PySem.W.Frag} {mg : Str → Option Value} {base : Heap} {A : Adr}
/-! ### common: tests, errors, small words -/
theorem exm_self {K : PySem.W.Frag} {S : Addr} (h1 : PySem.W.subIn K (.ref S) (.type "BaseException") = some true) (h2 : PySem.W.isClsIn K S = true) (h3 : PySem.W.typeIn K (.ref S) = some (.type "type")) (h4 : PySem.W.subIn K (.ref S) (.ref S) = some true) :
    PySem.W.exmOne K (.ref S) (.ref S) = some true := by
  have g1 : (PySem.W.subIn K (.ref S) (.type "BaseException") == some true) = true := by rw [h1]; rfl
  have g0 : (PySem.W.clsIn K S).isSome = true := h2
  have g2 : ((PySem.W.clsIn K S).isSome && PySem.W.typeIn K (.ref S) == some (.type "type")) = true := by rw [g0, h3]; rfl
  show (if (PySem.W.subIn K (.ref S) (.type "BaseException") == some true) = true then (if ((PySem.W.clsIn K S).isSome && PySem.W.typeIn K (.ref S) == some (.type "type")) = true then PySem.W.subIn K (.ref S) (.ref S) else none) else none) = some true
  rw [if_pos g1, if_pos g2]
  exact h4
theorem exm_cross {K : PySem.W.Frag} {S R : Addr} {b : Bool} (h1 : PySem.W.subIn K (.ref S) (.type "BaseException") = some true) (h2 : PySem.W.isClsIn K S = true) (h3 : PySem.W.typeIn K (.ref S) = some (.type "type")) (h4 : PySem.W.subIn K (.ref R) (.ref S) = some b) :
    PySem.W.exmOne K (.ref R) (.ref S) = some b := by
  have g1 : (PySem.W.subIn K (.ref S) (.type "BaseException") == some true) = true := by rw [h1]; rfl
  have g0 : (PySem.W.clsIn K S).isSome = true := h2
  have g2 : ((PySem.W.clsIn K S).isSome && PySem.W.typeIn K (.ref S) == some (.type "type")) = true := by rw [g0, h3]; rfl
  show (if (PySem.W.subIn K (.ref S) (.type "BaseException") == some true) = true then (if ((PySem.W.clsIn K S).isSome && PySem.W.typeIn K (.ref S) == some (.type "type")) = true then PySem.W.subIn K (.ref R) (.ref S) else none) else none) = some b
  rw [if_pos g1, if_pos g2]
  exact h4
/-- the law's own promise -/
def sp_law (K : PySem.W.Frag) : Sp := fun vs H Q _ => ∃ (a : Addr) (ns : List Int), vs = [.ref a] ∧ SqL K H a (ns.map V.int) ∧ ns.length ≤ 63 ∧ ∀ H', Q (.bl true) H'
theorem iteP {p A B : Prop} [Decidable p] (h1 : p → A) (h2 : ¬ p → B) : if decide p = true then A else B := by
  by_cases h : p
  · rw [decide_eq_true h]; exact iteT (h1 h)
  · rw [decide_eq_false h]; exact iteF (h2 h)
theorem iteN {p A B : Prop} [Decidable p] (h1 : ¬ p → A) (h2 : p → B) : if (!decide p) = true then A else B := by
  by_cases h : p
  · rw [decide_eq_true h]; exact iteF (h2 h)
  · rw [decide_eq_false h]; exact iteT (h1 h)
theorem iteEq {i j : Int} {A B : Prop} (h1 : i = j → A) (h2 : i ≠ j → B) : if decide (V.int i = V.int j) = true then A else B :=
  iteP (fun h => h1 (V.int.inj h)) (fun h => h2 fun e => h (congrArg V.int e))
theorem iteNe {i j : Int} {A B : Prop} (h1 : i ≠ j → A) (h2 : i = j → B) : if (!decide (V.int i = V.int j)) = true then A else B :=
  iteN (fun h => h1 fun e => h (congrArg V.int e)) (fun h => h2 (V.int.inj h))
theorem if_t {b : Bool} {A B : Prop} (e : b = true) (h : A) : if b = true then A else B := by rw [if_pos e]; exact h
theorem if_f {b : Bool} {A B : Prop} (e : b = false) (h : B) : if b = true then A else B := by rw [e]; exact iteF h
theorem if_b {b : Bool} {A B : Prop} (h1 : b = true → A) (h2 : b = false → B) : if b = true then A else B := by
  cases b with
  | true => exact iteT (h1 rfl)
  | false => exact iteF (h2 rfl)
theorem same_upd {H : Hp} {p : Addr} {o : HO} (h : H p = none) : Same H (upd H p o) := fun b x e => by
  rw [upd_ne (ne_of_none e h)]
  exact e
theorem len_line {n : Nat} (h : n ≤ 100000) : n ≤ sizeLine := Nat.le_trans h (by decide)
theorem lt_line {n : Nat} (h : n < 100000) : n < sizeLine := Nat.lt_of_lt_of_le h (by decide)
local macro_rules | `(tactic| walk_at "rd") => `(tactic| repeat (first
  | refine ⟨_, rfl, ?_⟩
  | refine ⟨_, _, rfl, rfl, ?_⟩
  | refine ⟨rfl, ?_⟩
  | refine Or.inl ⟨_, rfl, ?_⟩
  | refine ⟨(by show (0 : Int) < _; decide), ?_⟩
  | refine ⟨(⟨by decide, by decide⟩ : CDiv _ _), ?_⟩
  | refine ⟨(Or.inl ⟨by decide, by decide⟩ : CMul _ _), ?_⟩
  | refine ⟨(Or.inr ⟨by decide, by decide⟩ : CMul _ _), ?_⟩))
/-! ### data that are compared -/
def Sh (n : Nat) (d : PyData) : Prop := d.canLay0 = true ∧ d.depth ≤ n
theorem Sh.mono {n m : Nat} {d : PyData} (h : Sh n d) (l : n ≤ m) : Sh m d := ⟨h.1, Nat.le_trans h.2 l⟩
theorem sh_all : ∀ {n : Nat} {ds : List PyData}, (∀ d ∈ ds, Sh n d) → PyData.canLayAll0 ds = true ∧ PyData.depthAll ds ≤ n
  | n, [], _ => ⟨by simp [PyData.canLayAll0], by simp [PyData.depthAll]⟩
  | n, d :: ds, h => by
    have h1 := h d List.mem_cons_self
    have h2 := sh_all fun e he => h e (List.mem_cons_of_mem _ he)
    refine ⟨?_, ?_⟩
    · simp only [PyData.canLayAll0, Bool.and_eq_true]; exact ⟨h1.1, h2.1⟩
    · simp only [PyData.depthAll]; exact Nat.max_le.mpr ⟨h1.2, h2.2⟩
theorem sh_list {n : Nat} {ds : List PyData} (h : ∀ d ∈ ds, Sh n d) : Sh (n + 1) (.list ds) := by
  have q := sh_all h
  exact ⟨by simp only [PyData.canLay0]; exact q.1, by simp only [PyData.depth]; exact Nat.succ_le_succ q.2⟩
theorem sh_tuple {n : Nat} {ds : List PyData} (h : ∀ d ∈ ds, Sh n d) : Sh (n + 1) (.tuple ds) := by
  have q := sh_all h
  exact ⟨by simp only [PyData.canLay0]; exact q.1, by simp only [PyData.depth]; exact Nat.succ_le_succ q.2⟩
theorem sh_int (i : Int) : Sh 0 (.int i) := ⟨by simp [PyData.canLay0], by simp [PyData.depth]⟩
theorem sh_bool (i : Bool) : Sh 0 (.bool i) := ⟨by simp [PyData.canLay0], by simp [PyData.depth]⟩
theorem sh_none : Sh 0 .none := ⟨by simp [PyData.canLay0], by simp [PyData.depth]⟩
theorem sh_str {s : Str} (h : PyData.strOk s = true) : Sh 0 (.str s) := ⟨by simp only [PyData.canLay0]; exact h, by simp [PyData.depth]⟩
theorem Sh.shaped {n : Nat} {d : PyData} (h : Sh n d) (l : n ≤ 64 := by decide) : SeqAt.shaped d = true := by
  show (d.canLay0 && decide (d.depth ≤ 64)) = true
  rw [h.1, decide_eq_true (Nat.le_trans h.2 l)]
  rfl
theorem Sh.self {n : Nat} {d : PyData} (h : Sh n d) : PyData.eqv d d = true := SeqAt.eqv_refl d h.1
def pInts (xs : List Int) : PyData := .list (xs.map PyData.int)
theorem sh_ints (xs : List Int) : Sh 1 (pInts xs) := sh_list fun d hd => by
  obtain ⟨i, _, rfl⟩ := List.mem_map.mp hd
  exact sh_int i
theorem dpall_ints {K : PySem.W.Frag} {H : Hp} : ∀ xs : List Int, DpAll K H (xs.map V.int) (xs.map PyData.int)
  | [] => .nil
  | x :: r => .cons (.int x) (dpall_ints r)
theorem dp_ints {K : PySem.W.Frag} {H : Hp} {p : Addr} {xs : List Int} (h : SqL K H p (xs.map V.int)) : Dp K H (.ref p) (pInts xs) := .lst h (dpall_ints xs)
/-! ### views: what is new, what stands -/
structure Ext (V H V' H' : Hp) : Prop where
  vv : Same V V'
  vh : Same V' H'
  hh : Same H H'
  nw : ∀ a, V' a ≠ none → V a ≠ none ∨ H a = none
theorem Ext.refl {V H : Hp} (h : Same V H) : Ext V H V H := ⟨Same.refl V, h, Same.refl H, fun _ h => Or.inl h⟩
theorem Ext.trans {V H V1 H1 V2 H2 : Hp} (a : Ext V H V1 H1) (b : Ext V1 H1 V2 H2) : Ext V H V2 H2 :=
  ⟨a.vv.trans b.vv, b.vh, a.hh.trans b.hh, fun x h => by
    rcases b.nw x h with q | q
    · exact a.nw x q
    · exact Or.inr (a.hh.free q)⟩
theorem none_of_same {V H : Hp} {p : Addr} (s : Same V H) (h : H p = none) : V p = none := s.free h
theorem Ext.new {V H : Hp} {p : Addr} {o : HO} (s : Same V H) (h : H p = none) : Ext V H (upd V p o) (upd H p o) :=
  ⟨same_upd (s.free h), fun b u e => by
    by_cases hb : b = p
    · subst hb; rw [upd_same] at e ⊢; exact e
    · rw [upd_ne hb] at e ⊢; exact s b u e, same_upd h, fun a e => by
    by_cases ha : a = p
    · subst ha; exact Or.inr h
    · rw [upd_ne ha] at e; exact Or.inl e⟩
/-- a new object that the view does not take in -/
theorem Ext.skip {V H : Hp} {p : Addr} {o : HO} (s : Same V H) (h : H p = none) : Ext V H V (upd H p o) :=
  ⟨Same.refl V, s.trans (same_upd h), same_upd h, fun _ e => Or.inl e⟩
theorem Ext.keepOut {V H V' H' : Hp} (x : Ext V H V' H') {D : Addr} (h : V D = none) (hd : H D ≠ none) : V' D = none := by
  cases e : V' D with
  | none => rfl
  | some o =>
    rcases x.nw D (by rw [e]; exact fun z => by cases z) with q | q
    · exact absurd h q
    · exact absurd q hd
/-- an object outside of the view changes -/
theorem Ext.poke {V H V' H' : Hp} (x : Ext V H V' H') {D : Addr} {o : HO} (hd : H D = none) (h : V' D = none) : Ext V H V' (upd H' D o) :=
  ⟨x.vv, fun b u e => by
    have hb : b ≠ D := fun z => by rw [z, h] at e; cases e
    rw [upd_ne hb]; exact x.vh b u e, fun b u e => by
    have hb : b ≠ D := ne_of_none e hd
    rw [upd_ne hb]; exact x.hh b u e, x.nw⟩
/-- the object at D, done, is taken in -/
theorem Ext.take {V H V' H' : Hp} (x : Ext V H V' H') {D : Addr} {o : HO} (hd : H D = none) (h : V' D = none) (e : H' D = some o) : Ext V H (upd V' D o) H' :=
  ⟨x.vv.trans (same_upd h), fun b u q => by
    by_cases hb : b = D
    · subst hb; rw [upd_same] at q; rw [e]; exact q
    · rw [upd_ne hb] at q; exact x.vh b u q, x.hh, fun a q => by
    by_cases ha : a = D
    · subst ha; exact Or.inr hd
    · rw [upd_ne ha] at q; exact x.nw a q⟩
theorem _root_.L2.Same.sqt {K : PySem.W.Frag} {H H' : Hp} {a : Addr} {xs : List V} (e : Same H H') (h : SqT K H a xs) : SqT K H' a xs := by
  rcases h with (h | ⟨o, h⟩) | h
  · exact .inl (.inl (e _ _ h))
  · exact .inl (.inr ⟨o, e _ _ h⟩)
  · exact .inr h
mutual
theorem dp_same {K : PySem.W.Frag} {H H' : Hp} (s : Same H H') : ∀ (d : PyData) (v : V), Dp K H v d → Dp K H' v d
  | .none, _, h => by cases h; exact .non
  | .bool b, _, h => by cases h; exact .bl b
  | .int i, _, h => by cases h; exact .int i
  | .str x, _, h => by cases h; exact .str x
  | .list ds, _, h => by
    cases h with
    | lst q r => exact .lst (s.seq q) (dpall_same s ds _ r)
  | .tuple ds, _, h => by
    cases h with
    | tup q r => exact .tup (s.sqt q) (dpall_same s ds _ r)
  | .dict _, _, h => by cases h
theorem dpall_same {K : PySem.W.Frag} {H H' : Hp} (s : Same H H') : ∀ (ds : List PyData) (vs : List V), DpAll K H vs ds → DpAll K H' vs ds
  | [], _, h => by cases h; exact .nil
  | d :: ds, _, h => by
    cases h with
    | cons q r => exact .cons (dp_same s d _ q) (dpall_same s ds _ r)
end
theorem _root_.L2.Dp.to {K : PySem.W.Frag} {H H' : Hp} {v : V} {d : PyData} (h : Dp K H v d) (s : Same H H') : Dp K H' v d := dp_same s d v h
theorem _root_.L2.DpAll.to {K : PySem.W.Frag} {H H' : Hp} {v : List V} {d : List PyData} (h : DpAll K H v d) (s : Same H H') : DpAll K H' v d := dpall_same s d v h
theorem dpall_len {K : PySem.W.Frag} {H : Hp} : ∀ {vs : List V} {ds : List PyData}, DpAll K H vs ds → vs.length = ds.length
  | _, [], h => by cases h; rfl
  | _, d :: ds, h => by
    cases h with
    | cons q r => exact congrArg (· + 1) (dpall_len r)
theorem dpall_get {K : PySem.W.Frag} {H : Hp} : ∀ {vs : List V} {ds : List PyData} {i : Nat} {v : V}, DpAll K H vs ds → vs[i]? = some v → ∃ d, ds[i]? = some d ∧ Dp K H v d
  | _, [], i, v, h, e => by cases h; cases e
  | _, d :: ds, i, v, h, e => by
    cases h with
    | cons q r =>
      match i, e with
      | 0, e => cases e; exact ⟨d, rfl, q⟩
      | i + 1, e => exact dpall_get (i := i) r e
theorem dpall_get' {K : PySem.W.Frag} {H : Hp} : ∀ {vs : List V} {ds : List PyData} {i : Nat} {d : PyData}, DpAll K H vs ds → ds[i]? = some d → ∃ v, vs[i]? = some v ∧ Dp K H v d
  | _, [], i, d, h, e => by cases e
  | _, d :: ds, i, d', h, e => by
    cases h with
    | cons q r =>
      match i, e with
      | 0, e => cases e; exact ⟨_, rfl, q⟩
      | i + 1, e => exact dpall_get' (i := i) r e
theorem dpall_app {K : PySem.W.Frag} {H : Hp} : ∀ {vs ws : List V} {ds es : List PyData}, DpAll K H vs ds → DpAll K H ws es → DpAll K H (vs ++ ws) (ds ++ es)
  | _, _, [], _, h, g => by cases h; exact g
  | _, _, d :: ds, _, h, g => by
    cases h with
    | cons q r => exact .cons q (dpall_app r g)
theorem dp_list {K : PySem.W.Frag} {H : Hp} {v : V} {ds : List PyData} (h : Dp K H v (.list ds)) : ∃ a xs, v = .ref a ∧ SqL K H a xs ∧ DpAll K H xs ds := by
  cases h with
  | lst q r => exact ⟨_, _, rfl, q, r⟩
theorem dp_tuple {K : PySem.W.Frag} {H : Hp} {v : V} {ds : List PyData} (h : Dp K H v (.tuple ds)) : ∃ a xs, v = .ref a ∧ SqT K H a xs ∧ DpAll K H xs ds := by
  cases h with
  | tup q r => exact ⟨_, _, rfl, q, r⟩
theorem dp_int {K : PySem.W.Frag} {H : Hp} {v : V} {i : Int} (h : Dp K H v (.int i)) : v = .int i := by cases h; rfl
theorem dp_str {K : PySem.W.Frag} {H : Hp} {v : V} {i : Str} (h : Dp K H v (.str i)) : v = .str i := by cases h; rfl
theorem dp_bool {K : PySem.W.Frag} {H : Hp} {v : V} {i : Bool} (h : Dp K H v (.bool i)) : v = .bl i := by cases h; rfl
/-! ### comprehensions over any walk -/
def fm {α : Type} (f : Nat → Option α) (n : Nat) : List α := (List.range n).filterMap f
theorem fm_succ {α : Type} (f : Nat → Option α) (n : Nat) : fm f (n + 1) = fm f n ++ (f n).toList := by
  unfold fm
  rw [List.range_succ, List.filterMap_append]
  congr 1
theorem fm_len {α : Type} (f : Nat → Option α) (n : Nat) : (fm f n).length ≤ n := by
  have h := List.length_filterMap_le f (List.range n)
  rw [List.length_range] at h
  exact h
structure LcInv (K : PySem.W.Frag) (V0 H0 : Hp) (D : Addr) (acc : List PyData) (H : Hp) : Prop where
  ex : ∃ V xs, Ext V0 H0 V H ∧ V D = none ∧ H D = some (.lst xs) ∧ DpAll K V xs acc
theorem LcInv.start {K : PySem.W.Frag} {V0 H0 : Hp} {D : Addr} (s : Same V0 H0) (hD : H0 D = none) : LcInv K V0 H0 D [] (upd H0 D (.lst [])) :=
  ⟨V0, [], Ext.skip s hD, s.free hD, upd_same, .nil⟩
theorem LcInv.done {K : PySem.W.Frag} {V0 H0 H : Hp} {D : Addr} {acc : List PyData} (hD : H0 D = none) (i : LcInv K V0 H0 D acc H) : ∃ U xs, Ext V0 H0 U H ∧ U D = some (.lst xs) ∧ DpAll K U xs acc ∧ Dp K U (.ref D) (.list acc) := by
  obtain ⟨V, xs, x, hv, hd, dp⟩ := i.ex
  exact ⟨_, xs, x.take hD hv hd, upd_same, dp.to (same_upd hv), .lst (SqL.of upd_same) (dp.to (same_upd hv))⟩
/-- one more item -/
theorem LcInv.push {K : PySem.W.Frag} {V0 H0 U H U' H' : Hp} {D : Addr} {acc : List PyData} {xs : List V} {y : V} {d : PyData} (hD : H0 D = none) (x : Ext V0 H0 U H) (hv : U D = none) (hd : H D = some (.lst xs)) (dp : DpAll K U xs acc)
    (x2 : Ext U H U' H') (e : Dp K U' y d) (hl : acc.length < 100000) :
    ∃ acc', H' D = some (.lst acc') ∧ acc'.length < sizeLine ∧ LcInv K V0 H0 D (acc ++ [d]) (upd H' D (.lst (acc' ++ [y]))) := by
  have hv' : U' D = none := x2.keepOut hv (by rw [hd]; exact fun z => by cases z)
  refine ⟨xs, x2.hh _ _ hd, lt_line (by rw [dpall_len dp]; exact hl), U', xs ++ [y], (x.trans x2).poke hD hv', hv', upd_same, dpall_app (dp.to x2.vv) (.cons e .nil)⟩
/-- a comprehension's reading over a walk that leaves the heap as it is: at turn i the item x, then f i: the data of what is put in, or none -/
theorem lc_dp0 {J : It} {n : Nat} {G : Hp → Prop} {Y : Nat → Hp → V → Hp → Prop} (wk : Walk J n G Y) {K : PySem.W.Frag} {V0 H0 : Hp} {D : Addr} {g : TG} {tt : TT} {te : TE} {vs : List Nat} {σ : St} {Qd : Hp → Prop} (f : Nat → Option PyData) (σ0 : St) (hσ : wipe σ vs = σ0) (s0 : Same V0 H0) (hD : H0 D = none) (hn : n < 100000)
    (hG : ∀ H, Same H0 H → G H) (hY : ∀ i H x H', Y i H x H' → H' = H)
    (hs : ∀ i x V H, i < n → Ext V0 H0 V H → Y i H x H → ∀ (Qy : VK) (Qn : Hp → Prop), (∀ d y V' H', f i = some d → Ext V H V' H' → Dp K V' y d → Qy y H') → (f i = none → ∀ V' H', Ext V H V' H' → Qn H') →
      g x σ0 H fun σ2 H2 => wipe σ2 vs = σ0 ∧ tt σ2 H2 fun b H3 => if b = true then te σ2 H3 Qy else Qn H3)
    (hd : ∀ (U H : Hp) (xs : List V), Ext V0 H0 U H → U D = none → H D = some (.lst xs) → DpAll K U xs (fm f n) → Qd H) :
    ∃ W : Nat → Nat → Hp → Prop, (∃ m, W 0 m (upd H0 D (.lst []))) ∧ ∀ i m H, W i m H →
      (J.stop i H ∧ Qd H) ∨ (J.go i H ∧ ∃ Nx : Hp → Prop, (∀ H', Nx H' → ∃ m', m' < m ∧ W (i + 1) m' H') ∧ ∀ x H', J.yld i H x H' → g x (wipe σ vs) H' fun σ2 H2 => wipe σ2 vs = wipe σ vs ∧ tt σ2 H2 fun b H3 =>
        if b = true then te σ2 H3 fun y H4 => ∃ acc, H4 D = some (.lst acc) ∧ acc.length < sizeLine ∧ Nx (upd H4 D (.lst (acc ++ [y]))) else Nx H3) := by
  subst hσ
  refine lc_it wk (fun i H => LcInv K V0 H0 D (fm f i) H) (LcInv.start s0 hD) (fun i H _ p => ?_) (fun i x H H' hi p y => ?_) (fun H p => ?_)
  · obtain ⟨V, xs, x, _⟩ := p.ex
    exact hG H x.hh
  · obtain ⟨V, xs, x0, hv, hdd, dp⟩ := p.ex
    obtain rfl := hY i H x H' y
    refine hs i x V H' hi x0 y _ _ (fun d y' V' H4 e x2 dy => ?_) (fun e V' H4 x2 => ?_)
    · have hl : (fm f i).length < 100000 := Nat.lt_of_le_of_lt (fm_len f i) (Nat.lt_trans hi hn)
      obtain ⟨acc', a1, a2, a3⟩ := LcInv.push hD x0 hv hdd dp x2 dy hl
      refine ⟨acc', a1, a2, ?_⟩
      rw [fm_succ, e]
      exact a3
    · have hv' : V' D = none := x2.keepOut hv (by rw [hdd]; exact fun z => by cases z)
      rw [fm_succ, e]
      show LcInv K V0 H0 D (fm f i ++ []) H4
      rw [List.append_nil]
      exact ⟨V', xs, x0.trans x2, hv', x2.hh _ _ hdd, dp.to x2.vv⟩
  · obtain ⟨U, xs, x, hv, hdd, dp⟩ := p.ex
    exact hd U H xs x hv hdd dp
/-- a comprehension's reading over a walk that leaves the heap as it is: at turn i the item x, then f i: the data of what is put in, or none -/
theorem lc_dp {J : It} {n : Nat} {G : Hp → Prop} {Y : Nat → Hp → V → Hp → Prop} (wk : Walk J n G Y) {K : PySem.W.Frag} {V0 H0 : Hp} {D : Addr} {g : TG} {tt : TT} {te : TE} {vs : List Nat} {σ : St} {Qd : Hp → Prop} (f : Nat → Option PyData) (σ0 : St) (hσ : wipe σ vs = σ0) (s0 : Same V0 H0) (hD : H0 D = none) (hn : n < 100000)
    (hG : ∀ H, Same H0 H → G H) (hY : ∀ i H x H', Y i H x H' → H' = H)
    (hs : ∀ i x V H, i < n → Ext V0 H0 V H → Y i H x H → ∀ (Qy : VK) (Qn : Hp → Prop), (∀ d y V' H', f i = some d → Ext V H V' H' → Dp K V' y d → Qy y H') → (f i = none → ∀ V' H', Ext V H V' H' → Qn H') →
      g x σ0 H fun σ2 H2 => wipe σ2 vs = σ0 ∧ tt σ2 H2 fun b H3 => if b = true then te σ2 H3 Qy else Qn H3)
    (hd : ∀ (U H : Hp) (xs : List V), Ext V0 H0 U H → U D = some (.lst xs) → DpAll K U xs (fm f n) → Dp K U (.ref D) (.list (fm f n)) → Qd H) :
    ∃ W : Nat → Nat → Hp → Prop, (∃ m, W 0 m (upd H0 D (.lst []))) ∧ ∀ i m H, W i m H →
      (J.stop i H ∧ Qd H) ∨ (J.go i H ∧ ∃ Nx : Hp → Prop, (∀ H', Nx H' → ∃ m', m' < m ∧ W (i + 1) m' H') ∧ ∀ x H', J.yld i H x H' → g x (wipe σ vs) H' fun σ2 H2 => wipe σ2 vs = wipe σ vs ∧ tt σ2 H2 fun b H3 =>
        if b = true then te σ2 H3 fun y H4 => ∃ acc, H4 D = some (.lst acc) ∧ acc.length < sizeLine ∧ Nx (upd H4 D (.lst (acc ++ [y]))) else Nx H3) := by
  refine lc_dp0 wk f σ0 hσ s0 hD hn hG hY hs fun U H xs x hv hdd dp => ?_
  exact hd _ H xs (x.take hD hv hdd) upd_same (dp.to (same_upd hv)) (.lst (SqL.of upd_same) (dp.to (same_upd hv)))
theorem fm_map {α β : Type} (f : α → β) : ∀ (xs : List α), fm (fun i => (xs[i]?).map f) xs.length = xs.map f := by
  intro xs
  have h : ∀ n, n ≤ xs.length → fm (fun i => (xs[i]?).map f) n = (xs.take n).map f := by
    intro n
    induction n with
    | zero => intro _; rfl
    | succ n ih =>
      intro hn
      rw [fm_succ, ih (by omega), List.getElem?_eq_getElem (by omega), List.take_succ_eq_append_getElem (by omega), List.map_append]
      rfl
  rw [h _ (Nat.le_refl _), List.take_length]

theorem lc2_outer {J : It} {n : Nat} {G : Hp → Prop} {Y : Nat → Hp → V → Hp → Prop} (wk : Walk J n G Y) {K : PySem.W.Frag} {V0 H0 : Hp} {D : Addr} {g : TG} {vs : List Nat} {σ : St} {body : St → Hp → (Hp → Prop) → Prop} {Qd : Hp → Prop} (F : Nat → List PyData) (σ0 : St) (hσ : wipe σ vs = σ0) (s0 : Same V0 H0) (hD : H0 D = none) (hF : F 0 = [])
    (hG : ∀ H, Same H0 H → G H) (hY : ∀ i H x H', Y i H x H' → H' = H)
    (hs : ∀ i x H, i < n → LcInv K V0 H0 D (F i) H → Y i H x H → ∀ Nx : Hp → Prop, (∀ H', LcInv K V0 H0 D (F (i + 1)) H' → Nx H') → g x σ0 H fun σ2 H2 => wipe σ2 vs = σ0 ∧ body σ2 H2 Nx)
    (hd : ∀ (U H : Hp) (xs : List V), Ext V0 H0 U H → U D = some (.lst xs) → DpAll K U xs (F n) → Dp K U (.ref D) (.list (F n)) → Qd H) :
    ∃ W : Nat → Nat → Hp → Prop, (∃ m, W 0 m (upd H0 D (.lst []))) ∧ ∀ i m H, W i m H →
      (J.stop i H ∧ Qd H) ∨ (J.go i H ∧ ∃ Nx : Hp → Prop, (∀ H', Nx H' → ∃ m', m' < m ∧ W (i + 1) m' H') ∧ ∀ x H', J.yld i H x H' → g x (wipe σ vs) H' fun σ2 H2 => wipe σ2 vs = wipe σ vs ∧ body σ2 H2 Nx) := by
  subst hσ
  refine ⟨fun i m H => m = n - i ∧ i ≤ n ∧ LcInv K V0 H0 D (F i) H, ⟨n, by simp, Nat.zero_le _, by rw [hF]; exact LcInv.start s0 hD⟩, ?_⟩
  rintro i m H ⟨rfl, hi, p⟩
  have sH : Same H0 H := by obtain ⟨_, _, x, _⟩ := p.ex; exact x.hh
  by_cases hlt : i < n
  · refine .inr ⟨wk.goes i H hlt (hG H sH), fun H' => LcInv K V0 H0 D (F (i + 1)) H', fun H' p' => ⟨n - (i + 1), by omega, rfl, hlt, p'⟩, fun x H' y => ?_⟩
    have y' := wk.yields i H x H' hlt (hG H sH) y
    obtain rfl := hY i H x H' y'
    exact hs i x H' hlt p y' _ fun _ h => h
  · have e : i = n := by omega
    subst e
    obtain ⟨U, xs, x, e1, e2, e3⟩ := p.done hD
    exact .inl ⟨wk.stops H (hG H sH), hd U H xs x e1 e2 e3⟩
theorem lc2_inner {J : It} {n : Nat} {G : Hp → Prop} {Y : Nat → Hp → V → Hp → Prop} (wk : Walk J n G Y) {K : PySem.W.Frag} {V0 H0 H4 : Hp} {D : Addr} {acc0 : List PyData} {g : TG} {tt : TT} {te : TE} {vs : List Nat} {σ : St} {Nx : Hp → Prop} (f : Nat → Option PyData) (σ0 : St) (hσ : wipe σ vs = σ0) (hD : H0 D = none)
    (inv : LcInv K V0 H0 D acc0 H4) (hn : acc0.length + n < 100000) (hG : ∀ H, Same H0 H → G H) (hY : ∀ i H x H', Y i H x H' → H' = H)
    (hs : ∀ i x V H, i < n → Ext V0 H0 V H → Y i H x H → ∀ (Qy : VK) (Qn : Hp → Prop), (∀ d y V' H', f i = some d → Ext V H V' H' → Dp K V' y d → Qy y H') → (f i = none → ∀ V' H', Ext V H V' H' → Qn H') →
      g x σ0 H fun σ2 H2 => wipe σ2 vs = σ0 ∧ tt σ2 H2 fun b H3 => if b = true then te σ2 H3 Qy else Qn H3)
    (hd : ∀ H, LcInv K V0 H0 D (acc0 ++ fm f n) H → Nx H) :
    ∃ W : Nat → Nat → Hp → Prop, (∃ m, W 0 m H4) ∧ ∀ i m H, W i m H →
      (J.stop i H ∧ Nx H) ∨ (J.go i H ∧ ∃ Nx1 : Hp → Prop, (∀ H', Nx1 H' → ∃ m', m' < m ∧ W (i + 1) m' H') ∧ ∀ x H', J.yld i H x H' → g x (wipe σ vs) H' fun σ2 H2 => wipe σ2 vs = wipe σ vs ∧ tt σ2 H2 fun b H3 =>
        if b = true then te σ2 H3 fun y H4 => ∃ acc, H4 D = some (.lst acc) ∧ acc.length < sizeLine ∧ Nx1 (upd H4 D (.lst (acc ++ [y]))) else Nx1 H3) := by
  subst hσ
  refine ⟨fun i m H => m = n - i ∧ i ≤ n ∧ LcInv K V0 H0 D (acc0 ++ fm f i) H, ⟨n, by simp, Nat.zero_le _, by rw [show fm f 0 = [] from rfl, List.append_nil]; exact inv⟩, ?_⟩
  rintro i m H ⟨rfl, hi, p⟩
  have sH : Same H0 H := by obtain ⟨_, _, x, _⟩ := p.ex; exact x.hh
  by_cases hlt : i < n
  · refine .inr ⟨wk.goes i H hlt (hG H sH), fun H' => LcInv K V0 H0 D (acc0 ++ fm f (i + 1)) H', fun H' p' => ⟨n - (i + 1), by omega, rfl, hlt, p'⟩, fun x H' y => ?_⟩
    have y' := wk.yields i H x H' hlt (hG H sH) y
    obtain rfl := hY i H x H' y'
    obtain ⟨V, xs, x0, hv, hdd, dp⟩ := p.ex
    refine hs i x V H' hlt x0 y' _ _ (fun d y' V' H4 e x2 dy => ?_) (fun e V' H4 x2 => ?_)
    · have hl : (acc0 ++ fm f i).length < 100000 := by have := fm_len f i; rw [List.length_append]; omega
      obtain ⟨acc', a1, a2, a3⟩ := LcInv.push hD x0 hv hdd dp x2 dy hl
      refine ⟨acc', a1, a2, ?_⟩
      rw [fm_succ, e, ← List.append_assoc]
      exact a3
    · have hv' : V' D = none := x2.keepOut hv (by rw [hdd]; exact fun z => by cases z)
      rw [fm_succ, e]
      show LcInv K V0 H0 D (acc0 ++ (fm f i ++ [])) H4
      rw [List.append_nil]
      exact ⟨V', xs, x0.trans x2, hv', x2.hh _ _ hdd, dp.to x2.vv⟩
  · have e : i = n := by omega
    subst e
    exact .inl ⟨wk.stops H (hG H sH), hd H p⟩
theorem fm_some {α : Type} (f : Nat → α) (n : Nat) : fm (fun i => some (f i)) n = (List.range n).map f := by
  induction n with
  | zero => rfl
  | succ n ih => rw [fm_succ, ih, List.range_succ, List.map_append]; rfl
theorem fl_take' {α : Type} {β : Type} (f : α → List β) : ∀ (xs : List α) (i : Nat) (x : α), xs[i]? = some x → (xs.take (i + 1)).flatMap f = (xs.take i).flatMap f ++ f x := by
  intro xs i x h
  obtain ⟨hi, e⟩ := List.getElem?_eq_some_iff.mp h
  rw [List.take_succ_eq_append_getElem hi, List.flatMap_append, e]
  show _ ++ (f x ++ []) = _
  rw [List.append_nil]
theorem fl_le' {α : Type} {β : Type} (f : α → List β) (xs : List α) (i : Nat) : ((xs.take i).flatMap f).length ≤ (xs.flatMap f).length := by
  have : xs.flatMap f = (xs.take i).flatMap f ++ (xs.drop i).flatMap f := by rw [← List.flatMap_append, List.take_append_drop]
  rw [this, List.length_append]; omega
/-! ### lists of ints, texts -/
theorem tyL {K : PySem.W.Frag} {H : Hp} {a : Addr} {xs : List V} (h : SqL K H a xs) : TyX K H (.ref a) (.type "list") := by
  rcases h with (h | ⟨o, h⟩) | ⟨o, its, n, h, c, _⟩
  · exact .base (.lst h)
  · exact .base (.frz h)
  · exact .kList h c
theorem tyT {K : PySem.W.Frag} {H : Hp} {a : Addr} {xs : List V} (h : SqT K H a xs) : TyX K H (.ref a) (.type "tuple") := by
  rcases h with (h | ⟨o, h⟩) | ⟨o, its, n, h, c, _⟩
  · exact .base (.tup h)
  · exact .fTuple h
  · exact .kTuple h c
theorem dp_intsV {K : PySem.W.Frag} {H : Hp} : ∀ {xs : List V} {is : List Int}, DpAll K H xs (is.map PyData.int) → xs = is.map V.int
  | _, [], r => by cases r; rfl
  | _, i :: is, r => by
    cases r with
    | cons r1 r2 => cases r1; rw [dp_intsV r2]; rfl
theorem dp_intsL {K : PySem.W.Frag} {H : Hp} {a : Addr} {is : List Int} (h : Dp K H (.ref a) (.list (is.map PyData.int))) : SqL K H a (is.map V.int) := by
  obtain ⟨a', xs, e, q, r⟩ := dp_list h
  cases e
  rw [← dp_intsV r]; exact q
theorem dp_strsV {K : PySem.W.Frag} {H : Hp} : ∀ {xs : List V} {is : List Str}, DpAll K H xs (is.map PyData.str) → xs = is.map V.str
  | _, [], r => by cases r; rfl
  | _, i :: is, r => by
    cases r with
    | cons r1 r2 => cases r1; rw [dp_strsV r2]; rfl
theorem dp_boolsV {K : PySem.W.Frag} {H : Hp} : ∀ {xs : List V} {is : List Bool}, DpAll K H xs (is.map PyData.bool) → xs = is.map V.bl
  | _, [], r => by cases r; rfl
  | _, i :: is, r => by
    cases r with
    | cons r1 r2 => cases r1; rw [dp_boolsV r2]; rfl
theorem dp_boolsL {K : PySem.W.Frag} {H : Hp} {a : Addr} {is : List Bool} (h : Dp K H (.ref a) (.list (is.map PyData.bool))) : SqL K H a (is.map V.bl) := by
  obtain ⟨a', xs, e, q, r⟩ := dp_list h
  cases e
  rw [← dp_boolsV r]; exact q
theorem size_eq (z : Str) : z.cps.size = z.cps.toList.length := by simp
theorem cps_at (z : Str) (i : Nat) : z.cps[i]? = z.cps.toList[i]? := by simp
theorem fm_list {α β : Type} (f : α → β) (xs : List α) (n : Nat) (h : n = xs.length) (g : Nat → Option β) (hg : ∀ i x, xs[i]? = some x → g i = some (f x)) : fm g n = xs.map f := by
  subst h
  rw [← fm_map f xs]
  unfold fm
  have : ∀ l : List Nat, (∀ i ∈ l, i < xs.length) → l.filterMap g = l.filterMap fun i => (xs[i]?).map f := by
    intro l
    induction l with
    | nil => intro _; rfl
    | cons i l ih =>
      intro hl
      have hi' := hl i List.mem_cons_self
      rw [List.filterMap_cons, List.filterMap_cons, hg i _ (List.getElem?_eq_getElem hi'), List.getElem?_eq_getElem hi', ih fun j hj => hl j (List.mem_cons_of_mem _ hj)]
      rfl
  exact this _ fun i hi => List.mem_range.mp hi
theorem rep_flat {α : Type} (v : α) : ∀ n : Nat, (List.replicate n [v]).flatten = List.replicate n v
  | 0 => rfl
  | n + 1 => by rw [List.replicate_succ, List.replicate_succ, List.flatten_cons, rep_flat v n]; rfl
/-- a list's object that is tracked, at p, new -/
structure NewL (H H' : Hp) (p : Addr) (xs : List V) : Prop where
  new : H p = none
  same : Same H H'
  at_ : H' p = some (.lst xs)
theorem NewL.ext {U H H' : Hp} {p : Addr} {xs : List V} (n : NewL H H' p xs) (s : Same U H) : Ext U H (upd U p (.lst xs)) H' :=
  ⟨same_upd (s.free n.new), fun b u e => by
    by_cases hb : b = p
    · subst hb; rw [upd_same] at e; rw [n.at_]; exact e
    · rw [upd_ne hb] at e; exact n.same _ _ (s b u e), n.same, fun a e => by
    by_cases ha : a = p
    · subst ha; exact Or.inr n.new
    · rw [upd_ne ha] at e; exact Or.inl e⟩
theorem str_app (x y : Str) : (x ++ y).cps.toList = x.cps.toList ++ y.cps.toList := Array.toList_append
theorem str_len_app (x y : Str) : (x ++ y).length = x.length + y.length := by
  show (x ++ y).cps.size = x.cps.size + y.cps.size
  rw [size_eq, str_app, List.length_append, ← size_eq, ← size_eq]
/-! ### _law_cell, _law_row -/
def lawCell (ns : List Int) (k : Nat) : Int :=
  let c := if 0 < ns.length then ns.getD (k % ns.length) 0 else 0
  if c < 0 then 1 - 2 * c else c
theorem lawCell_nn (ns : List Int) (k : Nat) : 0 ≤ lawCell ns k := by
  unfold lawCell
  simp only
  split <;> omega
def lawOne (c : Int) (k : Nat) : Int := (c * 48271 + (k : Int) * 69621 + 12345) % 2147483647
def lawTwo (o : Int) (k : Nat) : Int := (o * o + 16807 * (k : Int) + 7) % 2147483629
def lawRow (ns : List Int) (k : Nat) : Int :=
  if k < ns.length ∧ 1000000000 ≤ lawCell ns k then lawCell ns k
  else (lawTwo (lawOne (lawCell ns k) k) k * lawTwo (lawOne (lawCell ns k) k) k + lawOne (lawCell ns k) k) % 4294967291 + 4294967296 * (lawOne (lawCell ns k) k + 1)
theorem lawOne_b (c : Int) (k : Nat) : 0 ≤ lawOne c k ∧ lawOne c k < 2147483647 := by unfold lawOne; omega
theorem lawTwo_b (c : Int) (k : Nat) : 0 ≤ lawTwo c k ∧ lawTwo c k < 2147483629 := by
  unfold lawTwo
  generalize c * c + 16807 * (k : Int) + 7 = x
  omega
theorem lawRow_nn (ns : List Int) (k : Nat) : 0 ≤ lawRow ns k := by
  unfold lawRow
  have h1 := lawOne_b (lawCell ns k) k
  split
  · exact lawCell_nn ns k
  · generalize lawTwo (lawOne (lawCell ns k) k) k * lawTwo (lawOne (lawCell ns k) k) k + lawOne (lawCell ns k) k = x
    omega
def sp__law_cell (K : PySem.W.Frag) : Sp := fun vs H Q _ => ∃ (a : Addr) (ns : List Int) (k : Nat), vs = [.ref a, .int (k : Int)] ∧ SqL K H a (ns.map V.int) ∧ Q (.int (lawCell ns k)) H
theorem sc__law_cell : FnScope ["script", "k", "cell"] ["script", "k"] (defScope s__law_cell) := ⟨rfl, rfl, rfl, by decide +kernel, rfl, by decide +kernel, by decide +kernel⟩
theorem ok__law_cell (T : Txt K mg A) : FnOk P w K mg base CX0 1 A.f_law_cell A.d_law_cell ["script", "k"] (sp__law_cell K) := by
  refine T.F_law_cell.ok sc__law_cell (fun vs H Q E h => ?_) (fun cdv Ar outer s H vs Q E hr h => ?_)
  · obtain ⟨a, ns, k, rfl, _⟩ := h
    rfl
  · obtain ⟨a, ns, k, rfl, hS, q⟩ := h
    refine ⟨_, (pss_cons (ps_set (i := 2) sc__law_cell.nd rfl (Or.inl rfl) pe_int)
      (pss_cons (ps_if (pt_cmpR op_gt (pe_callB call_len_seq (by rfl) T.len PySem.boot_len (pa_cons (pv 0) pa_nil)) pe_int (nomark _))
      (pss_one (ps_set (i := 2) sc__law_cell.nd rfl (Or.inl rfl) (pe_ix ix_list (pv 0) (pe_op op_mod (pe_callTy call_int1 (by rfl) T.int (by decide +kernel) (pa_cons (pv 1) pa_nil)) (pe_callB call_len_seq (by rfl) T.len PySem.boot_len (pa_cons (pv 0) pa_nil))) (fun _ _ => rfl))))
      pss_nil)
      (pss_cons (ps_if (pt_cmpR op_lt (pv 2) pe_int (nomark _))
      (pss_one (ps_set (i := 2) sc__law_cell.nd rfl (Or.inl rfl) (pe_op op_sub pe_int (pe_op op_mul pe_int (pv 2)))))
      pss_nil)
      (pss_one (ps_ret (pv 2)))))), ?_⟩
    have two : ∀ (c : Int), (if c < 0 then 1 - 2 * c else c) = lawCell ns k → tSeq (tIfS (tTest (tOp (rI0 fun i j => .bl (decide (i < j))) (tVar 2) (tC (.int 0)))) (tAsg (tOp (rI0 fun i j => .int (i - j)) (tC (.int 1)) (tOp (rI CMul fun i j => .int (i * j)) (tC (.int 2)) (tVar 2))) (gName 2)) tNext) (tRet (tVar 2))
        { nx := fun _ H' => Q .non H', rt := Q } [some (.ref a), some (.int (k : Int)), some (.int c)] H := by
      intro c hc
      walk_at "rd"
      refine iteP (fun h => ?_) (fun h => ?_)
      · rw [if_pos h] at hc
        walk_at "rd"
        rw [← hc] at q; exact q
      · rw [if_neg h] at hc
        walk_at "rd"
        rw [← hc] at q; exact q
    refine ⟨.ref a, rfl, a, _, rfl, .inl hS, _, _, rfl, rfl, _, rfl, iteP (fun h => ?_) (fun h => ?_)⟩
    · have h0 : 0 < ns.length := by rw [List.length_map] at h; omega
      refine ⟨_, rfl, _, rfl, Or.inl ⟨_, rfl, ?_⟩⟩
      refine ⟨_, rfl, a, _, rfl, .inl hS, _, _, rfl, rfl, by show (0 : Int) < _; omega, a, _, _, .int (ns.getD (k % ns.length) 0), rfl, rfl, hS, ?_, ?_⟩
      · refine at_of (j := k % ns.length) ?_ ?_
        · rw [List.length_map]; exact (Int.natCast_emod _ _).symm
        · rw [List.getElem?_map, List.getElem?_eq_getElem (Nat.mod_lt _ h0), List.getD_eq_getElem?_getD, List.getElem?_eq_getElem (Nat.mod_lt _ h0)]; rfl
      · refine two _ ?_
        unfold lawCell; rw [if_pos h0]
    · have h0 : ¬ 0 < ns.length := by rw [List.length_map] at h; omega
      refine two _ ?_
      unfold lawCell; rw [if_neg h0]
def sp__law_row (K : PySem.W.Frag) : Sp := fun vs H Q _ => ∃ (a : Addr) (ns : List Int) (k : Nat), vs = [.ref a, .int (k : Int)] ∧ SqL K H a (ns.map V.int) ∧ Q (.int (lawRow ns k)) H
theorem sc__law_row : FnScope ["script", "k", "cell", "one", "two"] ["script", "k"] (defScope s__law_row) := ⟨rfl, rfl, rfl, by decide +kernel, rfl, by decide +kernel, by decide +kernel⟩
theorem ok__law_row (T : Txt K mg A) : FnOk P w K mg base CX0 2 A.f_law_row A.d_law_row ["script", "k"] (sp__law_row K) := by
  refine T.F_law_row.ok sc__law_row (fun vs H Q E h => ?_) (fun cdv Ar outer s H vs Q E hr h => ?_)
  · obtain ⟨a, ns, k, rfl, _⟩ := h
    rfl
  · obtain ⟨a, ns, k, rfl, hS, q⟩ := h
    refine ⟨_, (pss_cons (ps_set (i := 2) sc__law_row.nd rfl (Or.inl rfl) (pe_call (ok__law_cell T) (hr.mono (by decide)) rfl T.g_law_cell T.k_law_cell T.b_law_cell .nil pass0 (pa_cons (pv 0) (pa_cons (pv 1) pa_nil))))
      (pss_cons (ps_if (PW.pt (pw_and (pt_cmpR op_lt (pv 1) (pe_callB call_len_seq (by rfl) T.len PySem.boot_len (pa_cons (pv 0) pa_nil)) (nomark _)) (pw_and1 (pt_cmpR op_ge (pv 2) pe_int (nomark _)))))
      (pss_one (ps_ret (pv 2)))
      pss_nil)
      (pss_cons (ps_set (i := 3) sc__law_row.nd rfl (Or.inl rfl) (pe_op op_mod (pe_callTy call_int1 (by rfl) T.int (by decide +kernel) (pa_cons (pe_op op_add (pe_op op_add (pe_op op_mul (pv 2) pe_int) (pe_op op_mul (pv 1) pe_int)) pe_int) pa_nil)) pe_int))
      (pss_cons (ps_set (i := 4) sc__law_row.nd rfl (Or.inl rfl) (pe_op op_mod (pe_callTy call_int1 (by rfl) T.int (by decide +kernel) (pa_cons (pe_op op_add (pe_op op_add (pe_op op_mul (pv 3) (pv 3)) (pe_op op_mul pe_int (pv 1))) pe_int) pa_nil)) pe_int))
      (pss_one (ps_ret (pe_op op_add (pe_op op_mod (pe_callTy call_int1 (by rfl) T.int (by decide +kernel) (pa_cons (pe_op op_add (pe_op op_mul (pv 4) (pv 4)) (pv 3)) pa_nil)) pe_int) (pe_op op_mul pe_int (pe_op op_add (pv 3) pe_int))))))))), ?_⟩
    have b1 := lawOne_b (lawCell ns k) k
    have b2 := lawTwo_b (lawOne (lawCell ns k) k) k
    have m1 : CMul (lawOne (lawCell ns k) k) (lawOne (lawCell ns k) k) := Or.inl ⟨by omega, by omega⟩
    have m2 : CMul (lawTwo (lawOne (lawCell ns k) k) k) (lawTwo (lawOne (lawCell ns k) k) k) := Or.inl ⟨by omega, by omega⟩
    refine ⟨_, rfl, _, rfl, a, ns, k, rfl, hS, ?_⟩
    refine ⟨_, rfl, _, rfl, a, _, rfl, .inl hS, _, _, rfl, rfl, _, rfl, ?_⟩
    refine iteP (fun h => ?_) (fun h => ?_)
    · refine ⟨_, rfl, _, _, rfl, rfl, _, rfl, iteP (fun h2 => ?_) (fun h2 => ?_)⟩
      · have e : lawRow ns k = lawCell ns k := by unfold lawRow; rw [if_pos ⟨by rw [List.length_map] at h; omega, h2⟩]
        rw [e] at q
        exact ⟨_, rfl, q⟩
      · unfold lawRow at q
        rw [if_neg fun z => h2 z.2] at q
        walk_at "rd"
        refine ⟨m1, ?_⟩
        walk_at "rd"
        refine ⟨m2, ?_⟩
        walk_at "rd"
        exact q
    · unfold lawRow at q
      rw [if_neg fun z => h (by rw [List.length_map]; omega)] at q
      walk_at "rd"
      refine ⟨m1, ?_⟩
      walk_at "rd"
      refine ⟨m2, ?_⟩
      walk_at "rd"
      exact q
/-! ### a word that goes on by itself -/
theorem iteVP {p A B : Prop} [Decidable p] (h1 : p → A) (h2 : ¬ p → B) : if p then A else B := by
  by_cases h : p
  · rw [if_pos h]; exact h1 h
  · rw [if_neg h]; exact h2 h
/-- a new tuple is handed back -/
def RetT (H : Hp) (Q : VK) (xs : List V) : Prop := ∀ p H', Same H H' → H' p = some (.tup xs) → Q (.ref p) H'
theorem RetT.go {H : Hp} {Q : VK} {xs : List V} (h : ∀ p H', Same H H' → H' p = some (.tup xs) → Q (.ref p) H') : RetT H Q xs := h
theorem ne_self {d e : PyData} {A B : Prop} (hs : SeqAt.shaped d = true) (h : d = e) (hB : B) : if (!PyData.eqv d e) = true then A else B := by
  subst h
  have h2 : (d.canLay0 && decide (d.depth ≤ 64)) = true := hs
  have : PyData.eqv d d = true := SeqAt.eqv_refl d (by rw [Bool.and_eq_true] at h2; exact h2.1)
  rw [this]
  exact iteF hB
theorem eq_self {d e : PyData} {A B : Prop} (hs : SeqAt.shaped d = true) (h : d = e) (hA : A) : if PyData.eqv d e = true then A else B := by
  subst h
  have h2 : (d.canLay0 && decide (d.depth ≤ 64)) = true := hs
  have : PyData.eqv d d = true := SeqAt.eqv_refl d (by rw [Bool.and_eq_true] at h2; exact h2.1)
  rw [this]
  exact iteT hA
theorem t_ne {K : PySem.W.Frag} {x y : V} {H : Hp} {Q : VK} {d e : PyData} (h1 : Dp K H x d) (h2 : Dp K H y e) (s1 : SeqAt.shaped d = true) (s2 : SeqAt.shaped e = true) (q : Q (.bl (!PyData.eqv d e)) H) : rNeD K x y H Q := ⟨d, e, h1, h2, s1, s2, q⟩
theorem t_eq {K : PySem.W.Frag} {x y : V} {H : Hp} {Q : VK} {d e : PyData} (h1 : Dp K H x d) (h2 : Dp K H y e) (s1 : SeqAt.shaped d = true) (s2 : SeqAt.shaped e = true) (q : Q (.bl (PyData.eqv d e)) H) : rEqD K x y H Q := ⟨d, e, h1, h2, s1, s2, q⟩
/-! words that go on by themselves -/
local macro_rules | `(tactic| walk_at "sq") => `(tactic| first
  | exact SqT.of upd_same
  | exact SqL.of upd_same
  | assumption
  | exact SqT.of (by assumption)
  | exact SqL.of (by assumption)
  | (apply Same.sqt (same_upd (by assumption)); walk_at "sq")
  | (apply Same.seq (same_upd (by assumption)); walk_at "sq")
  | (apply Same.sqt (by assumption); walk_at "sq")
  | (apply Same.seq (by assumption); walk_at "sq"))
local macro_rules | `(tactic| walk_at "sm") => `(tactic| first
  | exact Same.refl _
  | assumption
  | (apply Same.trans _ (same_upd (by assumption)); walk_at "sm")
  | (apply Same.trans _ (by assumption); walk_at "sm"))
local macro_rules | `(tactic| walk_at "at") => `(tactic| first
  | exact atI_nat (j := 0) rfl
  | exact atI_nat (j := 1) rfl
  | exact atI_nat (j := 2) rfl
  | exact atI_nat (j := 3) rfl
  | exact atI_nat (j := 4) rfl
  | exact atI_nat (j := 5) rfl)
local macro_rules | `(tactic| walk_at "go1") => `(tactic| first
  | refine ⟨_, rfl, ?_⟩
  | refine ⟨_, _, rfl, rfl, ?_⟩
  | refine ⟨rfl, ?_⟩
  | refine Or.inl ⟨_, rfl, ?_⟩
  | refine ⟨(by show (0 : Int) < _; decide), ?_⟩
  | refine ⟨(⟨by decide, by decide⟩ : CDiv _ _), ?_⟩
  | refine ⟨(Or.inl ⟨by decide, by decide⟩ : CMul _ _), ?_⟩
  | refine ⟨(Or.inr ⟨by decide, by decide⟩ : CMul _ _), ?_⟩
  | refine ⟨_, _, rfl, ?_⟩
  | refine ⟨_, _, _, rfl, ?_⟩
  | refine ⟨_, _, _, _, rfl, ?_⟩
  | (refine And.intro (a := (0 : Int) ≤ _) ?_ ?_; focus omega)
  | (refine And.intro (a := _ ≤ sizeLine) ?_ (fun p hp => ?_); (focus (exact len_line (Nat.le_of_ble_eq_true rfl))))
  | refine RetT.go (fun p H' s e => ?_)
  | refine if_t rfl ?_
  | refine if_f rfl ?_
  | refine ⟨_, _, rfl, (by walk_at "sq"), rfl, ?_⟩
  | refine ⟨_, _, rfl, Or.inl (by walk_at "sq"), ?_⟩
  | refine ⟨_, _, rfl, Or.inr (by walk_at "sq"), ?_⟩
  | refine ⟨_, _, _, _, rfl, rfl, (by walk_at "sq"), (by walk_at "at"), ?_⟩
  | refine ⟨_, _, rfl, (by walk_at "sq"), (by show ¬(HT.sIx 4 0 (some 2) = 0 ∧ HT.sIx 4 4 none = 4); decide), fun p hp => ?_⟩
  | refine ⟨_, _, _, _, rfl, rfl, (by walk_at "sq"), (by walk_at "sq"), (by intro h; cases h), len_line (Nat.le_of_ble_eq_true rfl), (fun h => by cases h), fun _ p hp => ?_⟩)
local macro_rules | `(tactic| walk_at "go") => `(tactic| repeat walk_at "go1")
local macro_rules | `(tactic| walk_at "dps") => `(tactic| first
  | exact DpAll.nil
  | (apply DpAll.cons; (focus (walk_at "dp")); (focus (walk_at "dps"))))
local macro_rules | `(tactic| walk_at "dp") => `(tactic| first
  | exact Dp.int _
  | exact Dp.bl _
  | exact Dp.str _
  | exact Dp.non
  | (apply Dp.tup; (focus (walk_at "sq")); (focus (walk_at "dps")))
  | (apply Dp.lst; (focus (walk_at "sq")); (focus (walk_at "dps"))))
local macro_rules | `(tactic| walk_at "sh") => `(tactic| (show (PyData.canLay0 _ && decide (PyData.depth _ ≤ 64)) = true; simp [PyData.canLay0, PyData.canLayAll0, PyData.depth, PyData.depthAll]))
/-- a deep comparison: what is left is the if -/
local macro_rules | `(tactic| walk_at "ne") => `(tactic| (apply t_ne; (focus (walk_at "dp")); (focus (walk_at "dp")); (focus (walk_at "sh")); (focus (walk_at "sh")); refine ⟨_, rfl, ?_⟩))
local macro_rules | `(tactic| walk_at "neS") => `(tactic| (walk_at "ne"; refine ne_self ?_ ?_ ?_; (focus (walk_at "sh"))))
/-! ### more words -/
local macro_rules | `(tactic| walk_at "go2") => `(tactic| first
  | walk_at "go1"
  | refine ⟨(⟨by omega, by omega⟩ : CDiv _ _), ?_⟩
  | refine ⟨(Or.inl ⟨by omega, by omega⟩ : CMul _ _), ?_⟩
  | refine ⟨(Or.inr ⟨by omega, by omega⟩ : CMul _ _), ?_⟩
  | refine ⟨(by show (0 : Int) < _; omega), ?_⟩)
local macro_rules | `(tactic| walk_at "gx") => `(tactic| repeat walk_at "go2")
/-! ### number_at, _cut, cut_messages -/
def numAt (xs : List Int) (at_ c : Nat) : Int := ((List.range c).map fun k => xs.getD (at_ + k) 0 * 2 ^ (8 * k)).sum
theorem numAt2 (xs : List Int) (p : Nat) : numAt xs p 2 = xs.getD p 0 + 256 * xs.getD (p + 1) 0 := by
  show xs.getD (p + 0) 0 * 2 ^ 0 + (xs.getD (p + 1) 0 * 2 ^ 8 + 0) = _
  rw [Nat.add_zero]; omega
theorem numAt4 (xs : List Int) (p : Nat) : numAt xs p 4 = xs.getD p 0 + 256 * xs.getD (p + 1) 0 + 65536 * xs.getD (p + 2) 0 + 16777216 * xs.getD (p + 3) 0 := by
  show xs.getD (p + 0) 0 * 2 ^ 0 + (xs.getD (p + 1) 0 * 2 ^ 8 + (xs.getD (p + 2) 0 * 2 ^ 16 + (xs.getD (p + 3) 0 * 2 ^ 24 + 0))) = _
  rw [Nat.add_zero]; omega
def okOcts (xs : List Int) : Prop := ∀ x ∈ xs, 0 ≤ x ∧ x ≤ 255
theorem getD_at {xs : List Int} {i : Nat} (h : i < xs.length) : (xs.map V.int)[i]? = some (.int (xs.getD i 0)) := by
  rw [List.getElem?_map, List.getElem?_eq_getElem h, List.getD_eq_getElem?_getD, List.getElem?_eq_getElem h]; rfl
theorem okOcts.get {xs : List Int} (h : okOcts xs) (i : Nat) : 0 ≤ xs.getD i 0 ∧ xs.getD i 0 ≤ 255 := by
  rw [List.getD_eq_getElem?_getD]
  cases e : xs[i]? with
  | none => decide
  | some x => exact h x (List.mem_of_getElem? e)
def sp_number_at (K : PySem.W.Frag) : Sp := fun vs H Q _ => ∃ (a : Addr) (xs : List Int) (p c : Nat), vs = [.ref a, .int (p : Int), .int (c : Int)] ∧ SqL K H a (xs.map V.int) ∧ okOcts xs ∧ p + c ≤ xs.length ∧ c ≤ 1000 ∧ ∀ H', Same H H' → Q (.int (numAt xs p c)) H'
theorem sc_number_at : FnScope ["octets", "at", "count", "place"] ["octets", "at", "count"] (defScope s_number_at) := ⟨rfl, rfl, rfl, by decide +kernel, rfl, by decide +kernel, by decide +kernel⟩
theorem ok_number_at (T : Txt K mg A) : FnOk P w K mg base CX0 1 A.fnumber_at A.dnumber_at ["octets", "at", "count"] (sp_number_at K) := by
  refine T.Fnumber_at.ok sc_number_at (fun vs H Q E h => ?_) (fun cdv Ar outer s H vs Q E hr h => ?_)
  · obtain ⟨a, xs, p, c, rfl, _⟩ := h
    rfl
  · obtain ⟨a, xs, p, c, rfl, hS, ho, hl, hc, q⟩ := h
    refine ⟨_, (pss_one (ps_ret (pe_callB (cr_sum rfl) (by rfl) T.sum (by decide +kernel) (pa_cons (pe_lc (own := [("place", 3)]) (g := (gName 3)) (tt := tYes) rfl sc_number_at.nd (pi_range1 (by rfl) T.range (pa_cons (pv 2) pa_nil)) (blkOk_by (own := [("place", 3)]) (N := ["octets", "at", "count", "place"]) (sc := defScope s_number_at) (by decide +kernel)) (fun _ _ _ _ _ => (pg_name (i := 3) sc_number_at.nd rfl (Or.inl rfl))) (fun _ _ _ _ _ => pts_nil) (fun _ _ _ _ _ => by exact (pe_op op_shl (pe_ix (r := rIxL K) ix_list (pv 0) (pe_op op_add (pv 1) (pv 3)) (fun _ _ => rfl)) (pe_op op_mul pe_int (pv 3))))) pa_nil)))), ?_⟩
    refine ⟨_, rfl, (c : Int), rfl, by omega, by omega, fun D hD => ?_⟩
    refine lc_dp (walk_range (lo := 0) (n := (c : Int).toNat)) (K := K) (V0 := H) (H0 := H) (fun k => some (PyData.int (xs.getD (p + k) 0 * 2 ^ (8 * k)))) [some (.ref a), some (.int (p : Int)), some (.int (c : Int)), none] rfl (Same.refl _) hD (by omega) (fun _ _ => trivial) (fun i x H H' y => y.1) ?_ ?_
    · rintro i x U H1 hi xx ⟨_, rfl⟩ Qy Qn hy _
      have hb := ho.get (p + i)
      have e1 : (8 * (0 + (i : Int))).toNat = 8 * i := by omega
      refine ⟨rfl, _, rfl, _, rfl, _, rfl, _, _, rfl, rfl, a, _, _, .int (xs.getD (p + i) 0), rfl, rfl, xx.hh.seq hS, at_of (j := p + i) (by omega) (getD_at (by omega)), ?_⟩
      refine ⟨_, rfl, _, _, rfl, rfl, Or.inl ⟨by decide, by decide⟩, _, _, rfl, rfl, ⟨?_, ?_, ?_⟩, ?_⟩
      · show (0 : Int) ≤ 8 * (0 + (i : Int)); omega
      · show 8 * (0 + (i : Int)) ≤ 1000000; omega
      · have : (xs.getD (p + i) 0).natAbs ≤ 255 := by omega
        exact Nat.lt_of_le_of_lt this (by decide)
      · dsimp only
        rw [e1]
        exact hy _ _ _ _ rfl (Ext.refl xx.vh) (.int _)
    · rintro U H1 ys xx hDU dl _
      rw [show (c : Int).toNat = c by omega, fm_some, show ((List.range c).map fun k => PyData.int (xs.getD (p + k) 0 * 2 ^ (8 * k))) = ((List.range c).map fun k => xs.getD (p + k) 0 * 2 ^ (8 * k)).map PyData.int from by rw [List.map_map]; rfl] at dl
      have e := dp_intsV dl
      subst e
      exact ⟨D, _, rfl, SqL.of (xx.vh _ _ hDU), q _ xx.hh⟩
theorem cutV_nat {xs : List V} {i j : Nat} (h : i ≤ j) (hj : j ≤ xs.length) : cutV xs (some (i : Int)) (some (j : Int)) = (xs.drop i).take (j - i) := by
  unfold cutV
  rw [HT.sIx_nat, HT.sIx_nat, Nat.min_eq_left (show i ≤ xs.length by omega), Nat.min_eq_left hj]
/-! ### _cut, cut_messages (behind number_at) -/
abbrev Msg := Int × Int × List Int
def msgD (m : Msg) : PyData := .tuple [.int m.1, .int m.2.1, pInts m.2.2]
theorem sh_msg (m : Msg) : Sh 2 (msgD m) := sh_tuple fun d hd => by
  simp only [List.mem_cons, List.not_mem_nil, or_false] at hd
  rcases hd with rfl | rfl | rfl
  · exact (sh_int _).mono (by decide)
  · exact (sh_int _).mono (by decide)
  · exact sh_ints _
def msgsD (ms : List Msg) : PyData := .list (ms.map msgD)
theorem sh_msgs (ms : List Msg) : Sh 3 (msgsD ms) := sh_list fun d hd => by
  obtain ⟨m, _, rfl⟩ := List.mem_map.mp hd
  exact sh_msg m
def isSize (s : Int) : Bool := decide (8 ≤ s ∧ s ≤ 20480 ∧ s % 4 = 0)
def msgAt (xs : List Int) (p : Nat) (s : Int) : Msg := (numAt xs p 4, numAt xs (p + 4) 2, (xs.drop (p + 8)).take (s.toNat - 8))
def cutF (xs : List Int) : Nat → Nat → List Msg × Nat × Bool
  | 0, p => ([], p, false)
  | f + 1, p => if xs.length < p + 8 then ([], p, false)
    else if isSize (numAt xs (p + 6) 2) = false then ([], p, true)
    else if (xs.length : Int) < p + numAt xs (p + 6) 2 then ([], p, false)
    else (msgAt xs p (numAt xs (p + 6) 2) :: (cutF xs f (p + (numAt xs (p + 6) 2).toNat)).1, (cutF xs f (p + (numAt xs (p + 6) 2).toNat)).2)
def cutR (xs : List Int) : List Msg × Nat × Bool := cutF xs (xs.length + 1) 0
theorem cutF_le (xs : List Int) : ∀ f p, p ≤ xs.length → (cutF xs f p).2.1 ≤ xs.length
  | 0, p, h => h
  | f + 1, p, h => by
    unfold cutF
    split
    · exact h
    · split
      · exact h
      · split
        · exact h
        · refine cutF_le xs f _ ?_
          rename_i h1 h2 h3
          have : isSize (numAt xs (p + 6) 2) = true := by simpa using h2
          have := of_decide_eq_true this
          omega
theorem cutR_le (xs : List Int) : (cutR xs).2.1 ≤ xs.length := cutF_le xs _ 0 (Nat.zero_le _)
theorem cutV_from {xs : List V} {i : Nat} (h : i ≤ xs.length) : cutV xs (some (i : Int)) none = xs.drop i := by
  unfold cutV
  rw [HT.sIx_nat, HT.sIx_none, Nat.min_eq_left h]
  exact List.take_of_length_le (by rw [List.length_drop]; exact Nat.le_refl _)
theorem cutV_to {xs : List V} {j : Nat} (h : j ≤ xs.length) : cutV xs none (some (j : Int)) = xs.take j := by
  unfold cutV
  rw [HT.sIx_nat, HT.sIx_none, Nat.min_eq_left h]; rfl
def sp_is_message_size (K : PySem.W.Frag) : Sp := fun vs H Q _ => ∃ (s : Int), vs = [.int s] ∧ Q (.bl (isSize s)) H
theorem sc_is_message_size : FnScope ["size"] ["size"] (defScope s_is_message_size) := ⟨rfl, rfl, rfl, by decide +kernel, rfl, by decide +kernel, by decide +kernel⟩
theorem ok_is_message_size (T : Txt K mg A) : FnOk P w K mg base CX0 1 A.fis_message_size A.dis_message_size ["size"] (sp_is_message_size K) := by
  refine T.Fis_message_size.ok sc_is_message_size (fun vs H Q E h => ?_) (fun cdv Ar outer s H vs Q E hr h => ?_)
  · obtain ⟨c, rfl, _⟩ := h
    rfl
  · obtain ⟨c, rfl, q⟩ := h
    refine ⟨_, (pss_one (ps_ret (pe_and (pe_chain op_le op_le (pe_glob (v := .int (8)) rfl T.gHEADER_SIZE ⟨_, rfl⟩) (pv 0) (pe_glob (v := .int (20480)) rfl T.gGREATEST_SIZE ⟨_, rfl⟩)) (pe_one (pe_cmpR op_eq (pe_op op_mod (pv 0) pe_int) pe_int (nomark _)))))), ?_⟩
    unfold isSize at q
    refine ⟨_, rfl, _, _, rfl, rfl, _, rfl, iteP (fun h1 => ?_) (fun h1 => ?_)⟩
    · refine ⟨_, _, rfl, rfl, _, rfl, iteP (fun h2 => ?_) (fun h2 => ?_)⟩
      · refine ⟨_, rfl, _, _, rfl, rfl, by show (0 : Int) < 4; decide, rfl, ?_⟩
        by_cases h3 : c % 4 = 0
        · rw [decide_eq_true ⟨h1, h2, h3⟩] at q
          dsimp only
          rw [decide_eq_true (by rw [h3])]; exact q
        · rw [decide_eq_false fun z => h3 z.2.2] at q
          dsimp only
          rw [decide_eq_false fun z => h3 (V.int.inj z)]; exact q
      · rw [decide_eq_false fun z => h2 z.2.1] at q; exact q
    · refine ⟨_, rfl, if_f rfl ?_⟩
      rw [decide_eq_false fun z => h1 z.1] at q; exact q
/-- _cut: a new tuple of a new list of messages, the place, the fault -/
def sp__cut (K : PySem.W.Frag) : Sp := fun vs H Q _ => ∃ (a : Addr) (xs : List Int) (U : Hp), vs = [.ref a] ∧ Same U H ∧ SqL K H a (xs.map V.int) ∧ okOcts xs ∧ xs.length < 80000 ∧
  ∀ (p m : Addr) (U' H' : Hp), Ext U H U' H' → U' p = some (.tup [.ref m, .int ((cutR xs).2.1 : Int), .bl (cutR xs).2.2]) → Dp K U' (.ref m) (msgsD (cutR xs).1) → (∃ ys, U' m = some (.lst ys) ∧ DpAll K U' ys ((cutR xs).1.map msgD)) → Q (.ref p) H'
theorem sc__cut : FnScope ["octets", "messages", "at", "size", "body"] ["octets"] (defScope s__cut) := ⟨rfl, rfl, rfl, by decide +kernel, rfl, by decide +kernel, by decide +kernel⟩
theorem ok__cut (T : Txt K mg A) : FnOk P w K mg base CX0 2 A.f_cut A.d_cut ["octets"] (sp__cut K) := by
  refine T.F_cut.ok sc__cut (fun vs H Q E h => ?_) (fun cdv Ar outer s H vs Q E hr h => ?_)
  · obtain ⟨a, xs, U, rfl, _⟩ := h
    rfl
  · obtain ⟨a, xs, U, rfl, hU, hS, ho, hl, q⟩ := h
    refine ⟨_, (pss_cons (ps_set (i := 1) sc__cut.nd rfl (Or.inl rfl) (pe_lst pa_nil))
      (pss_cons (ps_set (i := 2) sc__cut.nd rfl (Or.inl rfl) pe_int)
      (pss_cons (ps_while PassesOwn.never (pt_cmpR op_le (pe_op op_add (pv 2) (pe_glob (v := .int (8)) rfl T.gHEADER_SIZE ⟨_, rfl⟩)) (pe_callB call_len_seq (by rfl) T.len PySem.boot_len (pa_cons (pv 0) pa_nil)) (nomark _))
      (pss_cons (ps_set (i := 3) sc__cut.nd rfl (Or.inl rfl) (pe_call (ok_number_at T) (hr.mono (by decide)) rfl T.gnumber_at T.knumber_at T.bnumber_at .nil pass0 (pa_cons (pv 0) (pa_cons (pe_op op_add (pv 2) pe_int) (pa_cons pe_int pa_nil)))))
      (pss_cons (ps_if (pt_not (pt_val (pe_call (ok_is_message_size T) (hr.mono (by decide)) rfl T.gis_message_size T.kis_message_size T.bis_message_size .nil pass0 (pa_cons (pv 3) pa_nil))))
      (pss_one (ps_ret (pe_tup (pa_cons (pv 1) (pa_cons (pv 2) (pa_cons pe_bl pa_nil))))))
      pss_nil)
      (pss_cons (ps_if (pt_cmpR op_gt (pe_op op_add (pv 2) (pv 3)) (pe_callB call_len_seq (by rfl) T.len PySem.boot_len (pa_cons (pv 0) pa_nil)) (nomark _))
      (pss_one ps_break)
      pss_nil)
      (pss_cons (ps_set (i := 4) sc__cut.nd rfl (Or.inl rfl) (pe_slice (r := rSlL K) sl_list (pv 0) (po_some (pe_op op_add (pv 2) (pe_glob (v := .int (8)) rfl T.gHEADER_SIZE ⟨_, rfl⟩))) (po_some (pe_op op_add (pv 2) (pv 3)))))
      (pss_cons (ps_expr (pe_bm PySem.F.plainAttrs_list PySem.F.slot_list_append PySem.F.type_list_append mt_append (pv 1) (pa_cons (pe_tup (pa_cons (pe_call (ok_number_at T) (hr.mono (by decide)) rfl T.gnumber_at T.knumber_at T.bnumber_at .nil pass0 (pa_cons (pv 0) (pa_cons (pv 2) (pa_cons pe_int pa_nil)))) (pa_cons (pe_call (ok_number_at T) (hr.mono (by decide)) rfl T.gnumber_at T.knumber_at T.bnumber_at .nil pass0 (pa_cons (pv 0) (pa_cons (pe_op op_add (pv 2) pe_int) (pa_cons pe_int pa_nil)))) (pa_cons (pv 4) pa_nil)))) pa_nil)))
      (pss_one (ps_aug (i := 2) sc__cut.nd rfl (Or.inl rfl) (pv 3) ip_add))))))))
      (pss_one (ps_ret (pe_tup (pa_cons (pv 1) (pa_cons (pv 2) (pa_cons pe_bl pa_nil))))))))), ?_⟩
    refine ⟨by decide, fun m hm => ?_⟩
    -- the end: the tuple
    have fin : ∀ (H' : Hp) (ms : List Msg) (pl : Nat) (ft : Bool), LcInv K U H m (ms.map msgD) H' → cutR xs = (ms, pl, ft) → ∀ p, H' p = none → Q (.ref p) (upd H' p (.tup [.ref m, .int (pl : Int), .bl ft])) := by
      intro H' ms pl ft inv e p hp
      obtain ⟨U1, ys, x1, e1, e2, e3⟩ := inv.done hm
      have x2 := x1.trans (Ext.new (o := .tup [.ref m, .int (pl : Int), .bl ft]) x1.vh hp)
      refine q p m _ _ x2 ?_ ?_ ⟨ys, same_upd (none_of_same x1.vh hp) _ _ e1, by rw [e]; exact e2.to (same_upd (none_of_same x1.vh hp))⟩
      · rw [e]; exact upd_same
      · rw [e]; exact e3.to (same_upd (none_of_same x1.vh hp))
    refine ⟨fun f σ H' => ∃ (acc : List Msg) (pl : Nat) (v3 v4 : Option V), LcInv K U H m (acc.map msgD) H' ∧ σ = [some (.ref a), some (.ref m), some (.int (pl : Int)), v3, v4] ∧ pl ≤ xs.length ∧ acc.length ≤ pl ∧ xs.length < pl + f ∧ cutR xs = (acc ++ (cutF xs f pl).1, (cutF xs f pl).2),
      ⟨xs.length + 1, [], 0, none, none, LcInv.start hU hm, rfl, Nat.zero_le _, Nat.zero_le _, by omega, rfl⟩, ?_⟩
    rintro f σ H1 ⟨acc, pl, v3, v4, inv, rfl, hp, hac, hf, hR⟩
    have sH : Same H H1 := by obtain ⟨_, _, x, _⟩ := inv.ex; exact x.hh
    have hS1 := sH.seq hS
    obtain ⟨f, rfl⟩ : ∃ g, f = g + 1 := ⟨f - 1, by omega⟩
    unfold cutF at hR
    refine ⟨_, rfl, _, _, rfl, rfl, _, rfl, a, _, rfl, .inl hS1, _, _, rfl, rfl, _, rfl, ?_⟩
    rw [List.length_map]
    refine iteP (fun h => ?_) (fun h => ?_)
    · rw [if_neg (show ¬ xs.length < pl + 8 by omega)] at hR
      refine ⟨fun σ' H' => ∃ (acc : List Msg) (pl : Nat) (v3 v4 : Option V), LcInv K U H m (acc.map msgD) H' ∧ σ' = [some (.ref a), some (.ref m), some (.int (pl : Int)), v3, v4] ∧ pl ≤ xs.length ∧ acc.length ≤ pl ∧ xs.length < pl + f ∧ cutR xs = (acc ++ (cutF xs f pl).1, (cutF xs f pl).2), fun σ' H' hN => ⟨f, Nat.lt_succ_self f, hN⟩, ?_⟩
      -- size
      refine ⟨_, rfl, _, rfl, _, _, rfl, rfl, a, xs, pl + 6, 2, ?_, hS1, ho, by omega, by decide, fun H2 s2 => ?_⟩
      · show [V.ref a, V.int ((pl : Int) + 6), V.int 2] = [V.ref a, V.int ((pl + 6 : Nat) : Int), V.int 2]
        rw [Int.natCast_add]; rfl
      have inv2 : LcInv K U H m (acc.map msgD) H2 := by
        obtain ⟨U1, ys, x, e1, e2, e3⟩ := inv.ex
        exact ⟨U1, ys, ⟨x.vv, x.vh.trans s2, x.hh.trans s2, x.nw⟩, e1, s2 _ _ e2, e3⟩
      have hS2 := s2.seq hS1
      generalize numAt xs (pl + 6) 2 = sz at hR ⊢
      refine ⟨_, rfl, sz, rfl, _, rfl, if_b (fun c => ?_) (fun c => ?_)⟩
      · have c' : isSize sz = false := by
          cases e : isSize sz
          · rfl
          · rw [e] at c; cases c
        rw [if_pos c'] at hR
        rw [List.append_nil] at hR
        exact ⟨_, rfl, _, rfl, len_line (by show 3 ≤ 100000; decide), fun p hp => fin _ _ _ _ inv2 hR p hp⟩
      · have c' : isSize sz = true := by
          cases e : isSize sz
          · rw [e] at c; cases c
          · rfl
        have hsz := of_decide_eq_true c'
        rw [if_neg (by rw [c']; decide)] at hR
        refine ⟨_, rfl, _, rfl, _, _, rfl, rfl, _, rfl, a, _, rfl, .inl hS2, _, _, rfl, rfl, _, rfl, ?_⟩
        rw [List.length_map]
        refine iteP (fun h2 => ?_) (fun h2 => ?_)
        · rw [if_pos (by omega), List.append_nil] at hR
          exact ⟨_, rfl, _, rfl, len_line (by show 3 ≤ 100000; decide), fun p hp => fin _ _ _ _ inv2 hR p hp⟩
        · rw [if_neg (by omega)] at hR
          obtain ⟨k, rfl⟩ : ∃ k : Nat, sz = k := ⟨sz.toNat, by omega⟩
          refine ⟨_, rfl, _, rfl, _, _, rfl, rfl, _, rfl, _, rfl, _, rfl, _, _, rfl, rfl, _, rfl, a, _, rfl, hS2, fun b hb => ?_⟩
          have e1 : cutV (xs.map V.int) (some ((pl : Int) + 8)) (some ((pl : Int) + (k : Int))) = ((xs.drop (pl + 8)).take (k - 8)).map V.int := by
            have := cutV_nat (xs := xs.map V.int) (i := pl + 8) (j := pl + k) (by omega) (by rw [List.length_map]; omega)
            rw [Int.natCast_add, Int.natCast_add] at this
            rw [List.map_take, List.map_drop]
            rw [show pl + k - (pl + 8) = k - 8 by omega] at this
            exact this
          dsimp only
          rw [e1]
          obtain ⟨U1, ys, x, i1, i2, i3⟩ := inv2.ex
          have hmb : m ≠ b := ne_of_none i2 hb
          have xb := Ext.new (o := .lst (((xs.drop (pl + 8)).take (k - 8)).map V.int)) x.vh hb
          have hS3 := xb.hh.seq hS2
          refine ⟨_, rfl, .inl ⟨rfl, _, SqL.of (xb.hh _ _ i2)⟩, ?_⟩
          refine ⟨_, rfl, _, rfl, a, xs, pl, 4, rfl, hS3, ho, by omega, by decide, fun H4 s4 => ?_⟩
          refine ⟨_, rfl, _, rfl, _, _, rfl, rfl, a, xs, pl + 4, 2, ?_, s4.seq hS3, ho, by omega, by decide, fun H5 s5 => ?_⟩
          · show [V.ref a, V.int ((pl : Int) + 4), V.int 2] = [V.ref a, V.int ((pl + 4 : Nat) : Int), V.int 2]
            rw [Int.natCast_add]; rfl
          refine ⟨_, rfl, len_line (by show 3 ≤ 100000; decide), fun t ht => ?_⟩
          have xb2 : Ext U1 H2 (upd U1 b (.lst (((xs.drop (pl + 8)).take (k - 8)).map V.int))) H5 := ⟨xb.vv, (xb.vh.trans s4).trans s5, (xb.hh.trans s4).trans s5, xb.nw⟩
          have xt := xb2.trans (Ext.new (o := .tup [.int (numAt xs pl 4), .int (numAt xs (pl + 4) 2), .ref b]) xb2.vh ht)
          obtain ⟨acc', j1, j2, j3⟩ := LcInv.push (d := msgD (msgAt xs pl k)) (y := .ref t) hm x i1 i2 i3 xt
            (.tup (SqT.of upd_same) (.cons (.int _) (.cons (.int _) (.cons ((dp_ints (xs := (xs.drop (pl + 8)).take (k - 8)) (SqL.of upd_same)).to (same_upd (none_of_same xb2.vh ht))) .nil)))) (by rw [List.length_map]; omega)
          refine ⟨m, _, _, rfl, rfl, j1, j2, ?_⟩
          refine ⟨_, rfl, _, rfl, _, _, rfl, rfl, ?_⟩
          refine ⟨acc ++ [msgAt xs pl k], pl + k, some (.int (k : Int)), some (.ref b), ?_, ?_, by omega, by rw [List.length_append]; show acc.length + 1 ≤ _; omega, by omega, ?_⟩
          · rw [List.map_append]; exact j3
          · show [some (V.ref a), some (V.ref m), some (V.int ((pl : Int) + (k : Int))), _, _] = [some (V.ref a), some (V.ref m), some (V.int ((pl + k : Nat) : Int)), _, _]
            rw [Int.natCast_add]
          · rw [hR, List.append_assoc]; rfl
    · rw [if_pos (by omega), List.append_nil] at hR
      exact ⟨_, rfl, _, rfl, len_line (by show 3 ≤ 100000; decide), fun p hp => fin _ _ _ _ inv hR p hp⟩
def cutD (xs : List Int) : PyData := .tuple [msgsD (cutR xs).1, pInts (xs.drop (cutR xs).2.1), .bool (cutR xs).2.2]
theorem sh_cut (xs : List Int) : Sh 4 (cutD xs) := sh_tuple fun d hd => by
  simp only [List.mem_cons, List.not_mem_nil, or_false] at hd
  rcases hd with rfl | rfl | rfl
  · exact sh_msgs _
  · exact (sh_ints _).mono (by decide)
  · exact (sh_bool _).mono (by decide)
def sp_cut_messages (K : PySem.W.Frag) : Sp := fun vs H Q _ => ∃ (a : Addr) (xs : List Int) (U : Hp), vs = [.ref a] ∧ Same U H ∧ SqL K H a (xs.map V.int) ∧ okOcts xs ∧ xs.length < 80000 ∧
  ∀ (p m b : Addr) (U' H' : Hp), Ext U H U' H' → U' p = some (.tup [.ref m, .ref b, .bl (cutR xs).2.2]) → Dp K U' (.ref p) (cutD xs) → Dp K U' (.ref m) (msgsD (cutR xs).1) → U' b = some (.lst ((xs.drop (cutR xs).2.1).map V.int)) → Q (.ref p) H'
theorem sc_cut_messages : FnScope ["octets", "messages", "at", "fault"] ["octets"] (defScope s_cut_messages) := ⟨rfl, rfl, rfl, by decide +kernel, rfl, by decide +kernel, by decide +kernel⟩
theorem ok_cut_messages (T : Txt K mg A) : FnOk P w K mg base CX0 3 A.fcut_messages A.dcut_messages ["octets"] (sp_cut_messages K) := by
  refine T.Fcut_messages.ok sc_cut_messages (fun vs H Q E h => ?_) (fun cdv Ar outer s H vs Q E hr h => ?_)
  · obtain ⟨a, xs, U, rfl, _⟩ := h
    rfl
  · obtain ⟨a, xs, U, rfl, hU, hS, ho, hl, q⟩ := h
    refine ⟨_, (pss_cons (ps_asg (pe_call (ok__cut T) (hr.mono (by decide)) rfl T.g_cut T.k_cut T.b_cut .nil pass0 (pa_cons (pv 0) pa_nil)) (pg_tup rfl (pgs_cons (pg_name (i := 1) sc_cut_messages.nd rfl (Or.inl rfl)) (pgs_cons (pg_name (i := 2) sc_cut_messages.nd rfl (Or.inl rfl)) (pgs_cons (pg_name (i := 3) sc_cut_messages.nd rfl (Or.inl rfl)) pgs_nil)))))
      (pss_one (ps_ret (pe_tup (pa_cons (pv 1) (pa_cons (pe_slice (r := rSlL K) sl_list (pv 0) (po_some (pv 2)) po_none) (pa_cons (pv 3) pa_nil))))))), ?_⟩
    refine ⟨_, rfl, a, xs, U, rfl, hU, hS, ho, hl, fun p m U1 H1 x1 e1 d1 _ => ?_⟩
    have hle := cutR_le xs
    refine ⟨p, _, rfl, SqT.of (x1.vh _ _ e1), rfl, _, _, rfl, _, _, rfl, _, _, rfl, rfl, ?_⟩
    refine ⟨_, rfl, _, rfl, _, rfl, _, rfl, a, _, rfl, x1.hh.seq hS, fun b hb => ?_⟩
    rw [cutV_from (by rw [List.length_map]; exact hle), ← List.map_drop]
    refine ⟨_, rfl, len_line (by show 3 ≤ 100000; decide), fun t ht => ?_⟩
    have x2 := x1.trans (Ext.new (o := .lst ((xs.drop (cutR xs).2.1).map V.int)) x1.vh hb)
    have x3 := x2.trans (Ext.new (o := .tup [.ref m, .ref b, .bl (cutR xs).2.2]) x2.vh ht)
    have st := same_upd (o := .tup [.ref m, .ref b, .bl (cutR xs).2.2]) (none_of_same x2.vh ht)
    have sb := same_upd (o := .lst ((xs.drop (cutR xs).2.1).map V.int)) (none_of_same x1.vh hb)
    have dm := (d1.to sb).to st
    have eb := st _ _ (upd_same : (upd U1 b (.lst ((xs.drop (cutR xs).2.1).map V.int))) b = some (.lst ((xs.drop (cutR xs).2.1).map V.int)))
    exact q t m b _ _ x3 upd_same (.tup (SqT.of upd_same) (.cons dm (.cons (dp_ints (SqL.of eb)) (.cons (.bl _) .nil)))) dm eb
/-! ### the law's stream -/
theorem okOcts_app {xs ys : List Int} (h : okOcts xs) (g : okOcts ys) : okOcts (xs ++ ys) := fun x hx => by
  rcases List.mem_append.mp hx with h1 | h1
  · exact h x h1
  · exact g x h1
theorem okOcts_take {xs : List Int} (h : okOcts xs) (n : Nat) : okOcts (xs.take n) := fun x hx => h x (List.mem_of_mem_take hx)
theorem okOcts_drop {xs : List Int} (h : okOcts xs) (n : Nat) : okOcts (xs.drop n) := fun x hx => h x (List.mem_of_mem_drop hx)
def sp__law_message (K : PySem.W.Frag) : Sp := fun vs H Q _ => ∃ (r : Int), vs = [.int r] ∧ ∀ (p : Addr) (H' : Hp) (xs : List Int), NewL H H' p (xs.map V.int) → okOcts xs → xs.length ≤ 28 → Q (.ref p) H'
theorem sc__law_message : FnScope ["row", "number", "body", "j", "size"] ["row"] (defScope s__law_message) := ⟨rfl, rfl, rfl, by decide +kernel, rfl, by decide +kernel, by decide +kernel⟩
theorem ok__law_message (T : Txt K mg A) : FnOk P w K mg base CX0 1 A.f_law_message A.d_law_message ["row"] (sp__law_message K) := by
  refine T.F_law_message.ok sc__law_message (fun vs H Q E h => ?_) (fun cdv Ar outer s H vs Q E hr h => ?_)
  · obtain ⟨r, rfl, _⟩ := h
    rfl
  · obtain ⟨r, rfl, q⟩ := h
    refine ⟨_, (pss_cons (ps_set (i := 1) sc__law_message.nd rfl (Or.inl rfl) (pe_op op_add pe_int (pe_op op_mod (pe_callTy call_int1 (by rfl) T.int (by decide +kernel) (pa_cons (pv 0) pa_nil)) pe_int)))
      (pss_cons (ps_setLc (i := 2) (own := [("j", 3)]) (g := (gName 3)) (tt := tYes) rfl sc__law_message.nd rfl rfl (sw_true rfl rfl rfl (by decide +kernel)) (pi_range1 (by rfl) T.range (pa_cons (pe_op op_mul pe_int (pe_op op_mod (pe_callTy call_int1 (by rfl) T.int (by decide +kernel) (pa_cons (pe_op op_fdiv (pv 0) pe_int) pa_nil)) pe_int)) pa_nil)) (blkOk_by (own := [("j", 3)]) (N := ["row", "number", "body", "j", "size"]) (sc := defScope s__law_message) (by decide +kernel)) (fun _ _ _ _ _ => (pg_name (i := 3) sc__law_message.nd rfl (Or.inl rfl))) (fun _ _ _ _ _ => pts_nil) (fun _ _ _ _ _ => by exact (pe_op op_mod (pe_callTy call_int1 (by rfl) T.int (by decide +kernel) (pa_cons (pe_op op_fdiv (pv 0) (pe_op op_add (pv 3) pe_int)) pa_nil)) pe_int)))
      (pss_cons (ps_set (i := 4) sc__law_message.nd rfl (Or.inl rfl) (pe_op op_add (pe_callB call_len_seq (by rfl) T.len PySem.boot_len (pa_cons (pv 2) pa_nil)) pe_int))
      (pss_one (ps_ret (pe_op op_cat (pe_lst (pa_cons (pv 1) (pa_cons pe_int (pa_cons pe_int (pa_cons pe_int (pa_cons (pe_op op_mod (pe_callTy call_int1 (by rfl) T.int (by decide +kernel) (pa_cons (pe_op op_fdiv (pv 0) pe_int) pa_nil)) pe_int) (pa_cons pe_int (pa_cons (pv 4) (pa_cons pe_int pa_nil))))))))) (pv 2))))))), ?_⟩
    walk_at "rd"
    refine ⟨by show -(2 ^ 62) ≤ 4 * (r / 7 % 6); omega, by show 4 * (r / 7 % 6) < 2 ^ 62; omega, fun D hD => ?_⟩
    obtain ⟨n, hn⟩ : ∃ n : Nat, 4 * (r / 7 % 6) = n := ⟨(4 * (r / 7 % 6)).toNat, by omega⟩
    dsimp only
    rw [hn, show (n : Int).toNat = n by omega]
    refine lc_dp (walk_range (lo := 0) (n := n)) (K := K) (V0 := H) (H0 := H) (fun k => some (PyData.int (r / ((k : Int) + 2) % 256))) [some (.int r), some (.int (1 + r % 7)), none, none, none] rfl (Same.refl _) hD (by omega) (fun _ _ => trivial) (fun i x H H' y => y.1) ?_ ?_
    · rintro i x U H1 hi xx ⟨_, rfl⟩ Qy Qn hy _
      refine ⟨rfl, _, rfl, _, rfl, _, _, rfl, rfl, _, _, rfl, rfl, ⟨?_, ?_⟩, Or.inl ⟨_, rfl, ?_⟩⟩
      · show (0 : Int) < 0 + (i : Int) + 2; omega
      · show 0 + (i : Int) + 2 < 1073741824; omega
      refine ⟨_, _, rfl, rfl, by show (0 : Int) < 256; decide, ?_⟩
      rw [Int.zero_add]
      exact hy _ _ _ _ rfl (Ext.refl xx.vh) (.int _)
    · rintro U H1 ys xx hDU dl _
      have e0 : fm (fun k : Nat => some (PyData.int (r / ((k : Int) + 2) % 256))) n = ((List.range n).map fun k : Nat => r / ((k : Int) + 2) % 256).map PyData.int := by
        rw [fm_some, List.map_map]; rfl
      rw [e0] at dl
      have e := dp_intsV dl
      subst e
      have hb : okOcts ((List.range n).map fun k : Nat => r / ((k : Int) + 2) % 256) := fun x hx => by
        obtain ⟨k, _, rfl⟩ := List.mem_map.mp hx
        omega
      have hbl : ((List.range n).map fun k : Nat => r / ((k : Int) + 2) % 256).length = n := by rw [List.length_map, List.length_range]
      generalize ((List.range n).map fun k : Nat => r / ((k : Int) + 2) % 256) = body at hb hbl dl hDU
      have hDH := xx.vh _ _ hDU
      refine ⟨_, rfl, D, _, rfl, .inl (SqL.of hDH), ?_⟩
      rw [List.length_map, hbl]
      walk_at "rd"
      refine ⟨len_line (by show 8 ≤ 100000; decide), fun p hp => ?_⟩
      have hDp : D ≠ p := ne_of_none hDH hp
      refine ⟨_, rfl, p, D, _, _, rfl, rfl, upd_same, by rw [upd_ne hDp]; exact hDH, ?_, fun p2 hp2 => ?_⟩
      · rw [List.length_map, hbl]; exact len_line (by show 8 + n ≤ 100000; omega)
      refine q p2 _ ([1 + r % 7, 0, 0, 0, r / 5 % 9, 0, (n : Int) + 8, 0] ++ body) ⟨xx.hh.free ((same_upd hp).free hp2), xx.hh.trans ((same_upd hp).trans (same_upd hp2)), ?_⟩ ?_ ?_
      · rw [upd_same, List.map_append]; rfl
      · refine okOcts_app (fun x hx => ?_) hb
        simp only [List.mem_cons, List.not_mem_nil, or_false] at hx
        rcases hx with rfl | rfl | rfl | rfl | rfl | rfl | rfl | rfl <;> omega
      · rw [List.length_append, hbl]; show 8 + n ≤ 28; omega
def sp__law_stream (K : PySem.W.Frag) : Sp := fun vs H Q _ => ∃ (a : Addr) (ns : List Int) (c : Nat), vs = [.ref a, .int (c : Int)] ∧ SqL K H a (ns.map V.int) ∧ c ≤ 100 ∧ ∀ (p : Addr) (H' : Hp) (xs : List Int), NewL H H' p (xs.map V.int) → okOcts xs → xs.length ≤ 3000 → Q (.ref p) H'
theorem sc__law_stream : FnScope ["script", "count", "octets", "k", "row", "size"] ["script", "count"] (defScope s__law_stream) := ⟨rfl, rfl, rfl, by decide +kernel, rfl, by decide +kernel, by decide +kernel⟩
theorem ok__law_stream (T : Txt K mg A) : FnOk P w K mg base CX0 3 A.f_law_stream A.d_law_stream ["script", "count"] (sp__law_stream K) := by
  refine T.F_law_stream.ok sc__law_stream (fun vs H Q E h => ?_) (fun cdv Ar outer s H vs Q E hr h => ?_)
  · obtain ⟨a, ns, c, rfl, _⟩ := h
    rfl
  · obtain ⟨a, ns, c, rfl, hS, hc, q⟩ := h
    refine ⟨_, (pss_cons (ps_set (i := 2) sc__law_stream.nd rfl (Or.inl rfl) (pe_lst pa_nil))
      (pss_cons (ps_for PassesOwn.never rfl (pi_range1 (by rfl) T.range (pa_cons (pv 1) pa_nil)) (pg_name (i := 3) sc__law_stream.nd rfl (Or.inl rfl))
      (pss_cons (ps_set (i := 4) sc__law_stream.nd rfl (Or.inl rfl) (pe_call (ok__law_row T) (hr.mono (by decide)) rfl T.g_law_row T.k_law_row T.b_law_row .nil pass0 (pa_cons (pv 0) (pa_cons (pv 3) pa_nil))))
      (pss_one (ps_if (pt_cmpR op_eq (pe_op op_mod (pe_callTy call_int1 (by rfl) T.int (by decide +kernel) (pa_cons (pv 4) pa_nil)) pe_int) pe_int (nomark _))
      (pss_cons (ps_set (i := 5) sc__law_stream.nd rfl (Or.inl rfl) (pe_ix (r := rIxT K) ix_tup (pe_tup (pa_cons pe_int (pa_cons pe_int (pa_cons pe_int (pa_cons pe_int (pa_cons pe_int (pa_cons pe_int (pa_cons pe_int (pa_cons pe_int pa_nil))))))))) (pe_op op_mod (pe_callTy call_int1 (by rfl) T.int (by decide +kernel) (pa_cons (pe_op op_fdiv (pv 4) pe_int) pa_nil)) pe_int) (fun _ _ => rfl)))
      (pss_one (ps_set (i := 2) sc__law_stream.nd rfl (Or.inl rfl) (pe_op op_cat (pe_op op_cat (pv 2) (pe_lst (pa_cons pe_int (pa_cons pe_int (pa_cons pe_int (pa_cons pe_int (pa_cons pe_int (pa_cons pe_int (pa_cons (pe_op op_mod (pv 5) pe_int) (pa_cons (pe_op op_fdiv (pv 5) pe_int) pa_nil)))))))))) (pe_op op_rep (pe_lst (pa_cons pe_int pa_nil)) (pe_op op_mod (pe_callTy call_int1 (by rfl) T.int (by decide +kernel) (pa_cons (pe_op op_fdiv (pv 4) pe_int) pa_nil)) pe_int))))))
      (pss_one (ps_set (i := 2) sc__law_stream.nd rfl (Or.inl rfl) (pe_op op_cat (pv 2) (pe_call (ok__law_message T) (hr.mono (by decide)) rfl T.g_law_message T.k_law_message T.b_law_message .nil pass0 (pa_cons (pe_callTy call_int1 (by rfl) T.int (by decide +kernel) (pa_cons (pe_op op_fdiv (pv 4) pe_int) pa_nil)) pa_nil)))))))))
      (pss_cons (ps_set (i := 4) sc__law_stream.nd rfl (Or.inl rfl) (pe_call (ok__law_row T) (hr.mono (by decide)) rfl T.g_law_row T.k_law_row T.b_law_row .nil pass0 (pa_cons (pv 0) (pa_cons (pe_op op_add (pv 1) pe_int) pa_nil))))
      (pss_one (ps_ret (pe_op op_cat (pv 2) (pe_slice (r := rSlL K) sl_list (pe_lst (pa_cons pe_int (pa_cons pe_int (pa_cons pe_int (pa_cons pe_int (pa_cons pe_int (pa_cons pe_int (pa_cons pe_int (pa_cons pe_int (pa_cons pe_int (pa_cons pe_int (pa_cons pe_int pa_nil)))))))))))) po_none (po_some (pe_op op_mod (pe_callTy call_int1 (by rfl) T.int (by decide +kernel) (pa_cons (pv 4) pa_nil)) pe_int))))))))), ?_⟩
    refine ⟨by decide, fun p0 hp0 => ?_⟩
    refine ⟨_, rfl, (c : Int), rfl, by omega, by omega, for_range (lo := 0) (n := (c : Int).toNat) (fun i σ H' => ∃ (p : Addr) (xs : List Int) (v3 v4 v5 : Option V), σ = [some (.ref a), some (.int (c : Int)), some (.ref p), v3, v4, v5] ∧ Same H H' ∧ H' p = some (.lst (xs.map V.int)) ∧ okOcts xs ∧ xs.length ≤ 28 * i)
      ⟨p0, [], _, _, _, rfl, same_upd hp0, upd_same, (fun x hx => by cases hx), Nat.zero_le _⟩ ?_ ?_⟩
    · rintro i σ H1 hi ⟨p, xs, v3, v4, v5, rfl, hs, he, ho, hl⟩
      refine ⟨_, rfl, _, rfl, a, ns, i, ?_, hs.seq hS, ?_⟩
      · show [V.ref a, V.int (0 + (i : Int))] = [V.ref a, V.int (i : Int)]
        rw [Int.zero_add]
      have hr0 := lawRow_nn ns i
      generalize lawRow ns i = row at hr0 ⊢
      walk_at "rd"
      refine iteEq (fun h => ?_) (fun h => ?_)
      · refine ⟨len_line (by show 8 ≤ 100000; decide), fun p1 h1 => ?_⟩
        have h01 : p ≠ p1 := ne_of_none he h1
        walk_at "rd"
        obtain ⟨sz, hsz, hat⟩ : ∃ sz : Int, (0 ≤ sz ∧ sz ≤ 65535) ∧ atI [V.int 0, V.int 4, V.int 7, V.int 9, V.int 10, V.int 20481, V.int 20484, V.int 65532] (row / 17 % 8) = some (.int sz) := by
          have hb : 0 ≤ row / 17 % 8 ∧ row / 17 % 8 < 8 := by omega
          have hj : (row / 17 % 8).toNat < [(0 : Int), 4, 7, 9, 10, 20481, 20484, 65532].length := by show _ < 8; omega
          refine ⟨[(0 : Int), 4, 7, 9, 10, 20481, 20484, 65532][(row / 17 % 8).toNat], ?_, at_of (j := (row / 17 % 8).toNat) (by omega) ?_⟩
          · have := List.getElem_mem hj
            generalize [(0 : Int), 4, 7, 9, 10, 20481, 20484, 65532][(row / 17 % 8).toNat] = z at this
            simp only [List.mem_cons, List.not_mem_nil, or_false] at this
            omega
          · show ([(0 : Int), 4, 7, 9, 10, 20481, 20484, 65532].map V.int)[(row / 17 % 8).toNat]? = _
            rw [List.getElem?_map, List.getElem?_eq_getElem hj]; rfl
        refine ⟨p1, _, _, _, rfl, rfl, SqT.of upd_same, hat, ?_⟩
        have t1 := same_upd (o := .tup [V.int 0, V.int 4, V.int 7, V.int 9, V.int 10, V.int 20481, V.int 20484, V.int 65532]) h1
        have he1 := t1 _ _ he
        walk_at "rd"
        refine ⟨len_line (by show 8 ≤ 100000; decide), fun p2 h2 => ?_⟩
        have he2 := same_upd (o := .lst [.int 1, .int 0, .int 0, .int 0, .int 0, .int 0, .int (sz % 256), .int (sz / 256)]) h2 _ _ he1
        have hsl : ∀ {m : Nat}, xs.length ≤ 28 * m → m ≤ 100 → xs.length ≤ 2800 := fun h g => by omega
        refine ⟨p, p2, _, _, rfl, rfl, he2, upd_same, ?_, fun p3 h3 => ?_⟩
        · rw [List.length_map]; exact len_line (by show xs.length + 8 ≤ _; omega)
        refine ⟨by decide, fun p4 h4 => ?_⟩
        walk_at "rd"
        refine ⟨p4, _, _, rfl, rfl, upd_same, ?_, ?_, ?_, fun p5 h5 => ?_⟩
        · show -(2 ^ 63) ≤ row / 136 % 9; omega
        · show row / 136 % 9 < 2 ^ 63; omega
        · exact len_line (by show 1 * (row / 136 % 9).toNat ≤ _; omega)
        obtain ⟨k, hk⟩ : ∃ k : Nat, (row / 136 % 9).toNat = k := ⟨_, rfl⟩
        have hk9 : k < 9 := by omega
        dsimp only
        rw [hk]
        have n35 := ne_of_none (same_upd (o := .lst [.int 7]) h4 _ _ (upd_same (H := upd (upd H1 p1 (.tup [V.int 0, V.int 4, V.int 7, V.int 9, V.int 10, V.int 20481, V.int 20484, V.int 65532])) p2 (.lst [.int 1, .int 0, .int 0, .int 0, .int 0, .int 0, .int (sz % 256), .int (sz / 256)])) (a := p3) (o := .lst (xs.map V.int ++ [.int 1, .int 0, .int 0, .int 0, .int 0, .int 0, .int (sz % 256), .int (sz / 256)])))) h5
        refine ⟨p3, p5, xs.map V.int ++ [.int 1, .int 0, .int 0, .int 0, .int 0, .int 0, .int (sz % 256), .int (sz / 256)], _, rfl, rfl, ?_, upd_same, ?_, fun p6 h6 => ?_⟩
        · rw [upd_ne n35]
          exact same_upd h4 _ _ upd_same
        · rw [rep_flat, List.length_append, List.length_map, List.length_replicate]; exact len_line (by show xs.length + 8 + _ ≤ _; omega)
        refine ⟨p6, xs ++ [1, 0, 0, 0, 0, 0, sz % 256, sz / 256] ++ List.replicate k 7, _, _, _, rfl, ?_, ?_, ?_, ?_⟩
        · exact hs.trans (t1.trans ((same_upd h2).trans ((same_upd h3).trans ((same_upd h4).trans ((same_upd h5).trans (same_upd h6))))))
        · rw [upd_same, rep_flat, List.map_append, List.map_append, List.map_replicate]; rfl
        · refine okOcts_app (okOcts_app ho fun x hx => ?_) fun x hx => ?_
          · simp only [List.mem_cons, List.not_mem_nil, or_false] at hx
            rcases hx with rfl | rfl | rfl | rfl | rfl | rfl | rfl | rfl <;> omega
          · rw [List.eq_of_mem_replicate hx]; decide
        · rw [List.length_append, List.length_append, List.length_replicate]; show xs.length + 8 + k ≤ _; omega
      · refine ⟨_, rfl, _, rfl, _, _, rfl, rfl, ⟨by decide, by decide⟩, Or.inl ⟨_, rfl, _, rfl, fun p1 H2 ys n1 hy hyl => ?_⟩⟩
        refine ⟨p, p1, _, _, rfl, rfl, n1.same _ _ he, n1.at_, ?_, fun p2 h2 => ?_⟩
        · rw [List.length_map, List.length_map]; exact len_line (by omega)
        refine ⟨p2, xs ++ ys, _, _, _, rfl, hs.trans (n1.same.trans (same_upd h2)), ?_, okOcts_app ho hy, by rw [List.length_append]; omega⟩
        rw [upd_same, List.map_append]
    · rintro σ H1 ⟨p, xs, v3, v4, v5, rfl, hs, he, ho, hl⟩
      refine ⟨_, rfl, _, rfl, _, _, rfl, rfl, a, ns, c + 63, ?_, hs.seq hS, ?_⟩
      · show [V.ref a, V.int ((c : Int) + 63)] = [V.ref a, V.int ((c + 63 : Nat) : Int)]
        rw [Int.natCast_add]; rfl
      have hr0 := lawRow_nn ns (c + 63)
      generalize lawRow ns (c + 63) = row at hr0 ⊢
      refine ⟨_, rfl, len_line (by show 11 ≤ 100000; decide), fun p1 h1 => ?_⟩
      walk_at "rd"
      obtain ⟨k, hk⟩ : ∃ k : Nat, row % 12 = k := ⟨(row % 12).toNat, by omega⟩
      refine ⟨p1, _, rfl, SqL.of upd_same, fun p2 h2 => ?_⟩
      dsimp only
      rw [hk, cutV_to (show k ≤ 11 by omega)]
      have e2 := same_upd (o := .lst (([9, 0, 0, 0, 1, 0, 16, 0, 5, 5, 5] : List Int).map V.int)) h1 _ _ he
      refine ⟨p, p2, _, _, rfl, rfl, same_upd h2 _ _ e2, upd_same, ?_, fun p3 h3 => ?_⟩
      · rw [List.length_map, List.length_take]; exact len_line (by omega)
      refine q p3 _ (xs ++ ([9, 0, 0, 0, 1, 0, 16, 0, 5, 5, 5] : List Int).take k) ⟨hs.free ((same_upd h1).free ((same_upd h2).free h3)), hs.trans ((same_upd h1).trans ((same_upd h2).trans (same_upd h3))), ?_⟩ (okOcts_app ho (okOcts_take (fun x hx => ?_) k)) ?_
      · rw [upd_same, List.map_append, List.map_take]; rfl
      · simp only [List.mem_cons, List.not_mem_nil, or_false] at hx
        omega
      · rw [List.length_append, List.length_take]; omega
/-! ### del xs[:c] of a list (our own rule; its road is that of the library's rule for xs[a:b] = ys) -/
section
open PySem PySem.Spec PyProof.Rows
variable {prog : Program} {w : World} {A : Around} {E : Value → Shared → Prop} {s : Shared}
theorem drop_kept {α : Type} (g : α × Nat → Option α) (c : Nat) (hg : ∀ x k, g (x, k) = if k < c then none else some x) : ∀ (its : List α) (b : Nat), (its.zipIdx b).filterMap g = its.drop (c - b)
  | [], b => by rw [List.drop_nil]; rfl
  | x :: r, b => by
    rw [List.zipIdx_cons, List.filterMap_cons, hg]
    by_cases h : b < c
    · rw [if_pos h]
      dsimp only
      rw [drop_kept g c hg r (b + 1), show c - b = (c - (b + 1)) + 1 by omega, List.drop_succ_cons]
    · rw [if_neg h]
      dsimp only
      rw [drop_kept g c hg r (b + 1), show c - b = 0 by omega, show c - (b + 1) = 0 by omega, List.drop_zero, List.drop_zero]
theorem bounds_to {c n : Nat} (hc : c ≤ n) : sliceBounds none (some (c : Int)) none n = (0, (c : Int), 1) := by
  simp only [sliceBounds, Option.getD_none]
  have h2 : ¬ ((c : Int) < 0) := by omega
  simp only [h2, if_false, show (1 : Int) > 0 by decide, if_true]
  congr 2
  omega
set_option maxRecDepth 100000 in
theorem delItem_to {l sl : Addr} {items : Array Value} {n : Nat} {vl vu : Value} {c : Nat} {Q : Unit → Shared → Prop}
    (e : s.heap.get? l = some { cls := .type "list", data := .seq items n })
    (hs : s.heap.IsSliceOf sl vl vu .none) (pl : IsPart vl none) (pu : IsPart vu (some (c : Int))) (hc : c ≤ items.size)
    (hsz : items.size ≤ sizeLine) (h : ∀ F : Array Value → Array Value, F items = (items.toList.drop c).toArray → Q () { s with heap := s.heap.update l (Obj.mapSeq F) }) :
    wpAny (model prog w) A (delItem (.ref l) (.ref sl)) Q E s := by
  have hl : s.heap.IsList l items := PySem.IsL.isList e
  obtain ⟨os, hos, hcs, hds⟩ := id hs
  have hTs : s.TypeIs (.ref sl) "slice" := ⟨os, hos, hcs⟩
  have hstep : ¬ ((rawPart none == rawInt 0) = true) := Bool.false_ne_true
  refine wpAny_delItem_slot hl.typeIs (by decide) F.slot_list_delitem (wpAny_call_entry F.slot_list_delitem hl.typeIs F.entry_list_delitem ?_ (F.args_list_delitem_2 _ _))
  show wpAny _ _ (Builtin.List.listSubscript? (.ref sl) >>= _) _ _ s
  refine wpAny_bind ?_
  unfold Builtin.List.listSubscript?
  refine wpAny_bind (wpAny_specialOf hTs slice_no_index ?_)
  simp only [Option.isNone_none, if_true]
  refine wpAny_pure ?_
  show wpAny _ _ (typeOf (.ref sl) >>= _) _ _ s
  refine wpAny_bind (wpAny_typeOf hTs ?_)
  first
    | rw [if_neg (by decide)]
    | refine PySem.W.KFB.if_not (by decide) ?_
  rw [listSliceParts_eq]
  refine wpAny_bind (wpAny_bind (wpAny_field hos hds (x := .none) rfl (wpAny_bind (wpAny_listPart .none ?_))))
  rw [if_neg hstep]
  refine wpAny_bind (wpAny_field hos hds (x := vl) rfl (wpAny_bind (wpAny_listPart pl ?_)))
  refine wpAny_bind (wpAny_field hos hds (x := vu) rfl (wpAny_bind (wpAny_listPart pu (wpAny_pure ?_))))
  unfold Builtin.List.listItems
  refine wpAny_bind (wpAny_bind (wpAny_seqItems e rfl (wpAny_pure ?_)))
  refine wpAny_bind (wpAny_of_eq ((sliceIndices_raw none (some (c : Int)) none items.size (by simp)).trans (congrArg (pure : Int × Int × Int → Sem (Int × Int × Int)) (bounds_to hc))) ?_)
  refine wpAny_bind (wpAny_rule ?_)
  have sel : ∀ k : Nat, ((decide ((0 : Int) ≤ (k : Int)) && decide ((k : Int) < (c : Int))) && (((k : Int) - 0) % 1 == 0)) = decide (k < c) := by
    intro k
    rw [decide_eq_true (show (0 : Int) ≤ (k : Int) by omega), Bool.true_and, show (((k : Int) - 0) % 1 == 0) = true from beq_iff_eq.mpr (by omega), Bool.and_true]
    by_cases h : k < c
    · rw [decide_eq_true h, decide_eq_true (show (k : Int) < (c : Int) by omega)]
    · rw [decide_eq_false h, decide_eq_false (show ¬ (k : Int) < (c : Int) by omega)]
  refine wpAny_bind (wpAny_updateSeq (hz := hsz) (_hz' := ?sz) e rfl ?go)
  case sz =>
    dsimp only
    rw [drop_kept _ c ?_ items.toList 0]
    · rw [List.size_toArray, List.length_drop, Array.length_toList]
      omega
    · intro x k
      dsimp only
      refine (congrArg (fun b : Bool => if b = true then (none : Option Value) else some x) (sel k)).trans ?_
      by_cases h : k < c
      · rw [decide_eq_true h, if_pos h]; rfl
      · rw [decide_eq_false h, if_neg h]; rfl
  case go =>
    refine wpAny_bind (wpAny_letGo ?_)
    refine wpAny_pure ⟨.none, rfl, h _ ?_⟩
    dsimp only
    rw [drop_kept _ c ?_ items.toList 0]
    · rfl
    · intro x k
      dsimp only
      refine (congrArg (fun b : Bool => if b = true then (none : Option Value) else some x) (sel k)).trans ?_
      by_cases h : k < c
      · rw [decide_eq_true h, if_pos h]; rfl
      · rw [decide_eq_false h, if_neg h]; rfl
end
section
variable {X : Cx} {pos : Pos}
/-- del xs[:c], xs changed in place -/
theorem del_to {pins : List (Addr × Obj)} {s : Shared} {σ : St} {H : Hp} {l sl : Addr} {xs : List V} {c : Nat} {vl vu : Value} {Q : Unit → Shared → Prop} (I : Inv X pins σ H s)
    (hH : H l = some (.lst xs)) (hs : s.heap.IsSliceOf sl vl vu .none) (pl : IsPart vl none) (pu : IsPart vu (some (c : Int))) (hc : c ≤ xs.length)
    (h : ∀ s', Inv X pins σ (upd H l (.lst (xs.drop c))) s' → Q () s') :
    wpAny (model X.prog X.w) X.A (delItem (.ref l) (.ref sl)) Q X.xe s := by
  obtain ⟨z, its, n, r, hl, e⟩ := I.lstM hH
  refine delItem_to (c := c) e hs pl pu (by rw [List.size_toArray]; omega) (by rw [List.size_toArray]; omega) fun F hF => h _ ?_
  refine I.lset (its' := its.drop c) (t' := s.toks) hH e hF (r.drop c) ?_
  rw [List.length_drop]; omega
def tDelTo (to : TE) (th : TO) : TS := fun D σ H => to σ H fun x H1 => th σ H1 fun u H2 => ∃ (l : Addr) (xs : List V) (c : Nat), x = .ref l ∧ u = some (c : Int) ∧ H2 l = some (.lst xs) ∧ c ≤ xs.length ∧ D.nx σ (upd H2 l (.lst (xs.drop c)))
theorem ps_delTo {o : Expr} {hi : Option Expr} {to : TE} {th : TO} {p2 tpos : Pos} (ho : PE X o to) (hu : PO X hi th) : PS X (.Delete [.Subscript o (.Slice none hi none p2) tpos] pos) (tDelTo to th) := by
  refine ⟨fun pins s σ H D I h => ?_⟩
  refine wpAny_Delete (wpAny_deleteEach_cons (wpAny_delete_Subscript (thn (ho.run pins s σ H _ I h) fun v s1 ⟨x, H1, I1, rx, q1⟩ => ?_)))
  refine wpAny_Slice ?_
  rw [evalPart_none]
  refine wpAny_pure ?_
  refine thn (hu.run pins s1 σ H1 _ I1 q1) fun vu s3 ⟨u, H3, I3, pu, q3⟩ => ?_
  refine wpAny_pure ?_
  have I4 : Inv X pins σ H3 { s3 with heap := s3.heap.push { cls := .type "slice", data := .fields #[.none, vu, .none] } } := I3.kept (t' := s3.toks) fun b ob q => Heap.get?_push_of_some _ q
  obtain ⟨l, xs, c, ex, eu, hH, hc, q⟩ := q3
  subst ex
  subst eu
  cases (show v = Value.ref l from rx)
  exact del_to I4 hH (Heap.IsSliceOf.new ..) .none pu hc fun s4 I5 => wpAny_deleteEach_nil ⟨σ, _, I5, q⟩
end
/-! ### views that grow while objects outside of them change -/
structure Grow (U H U' H' : Hp) : Prop where
  vv : Same U U'
  vh : Same U' H'
  nw : ∀ a, U' a ≠ none → U a ≠ none ∨ H a = none
theorem Ext.grow {U H U' H' : Hp} (x : Ext U H U' H') : Grow U H U' H' := ⟨x.vv, x.vh, x.nw⟩
theorem Grow.refl {U H : Hp} (s : Same U H) : Grow U H U H := ⟨Same.refl U, s, fun _ h => Or.inl h⟩
theorem Grow.keepOut {U H U' H' : Hp} (x : Grow U H U' H') {D : Addr} (h : U D = none) (hd : H D ≠ none) : U' D = none := by
  cases e : U' D with
  | none => rfl
  | some o =>
    rcases x.nw D (by rw [e]; exact fun z => by cases z) with q | q
    · exact absurd h q
    · exact absurd q hd
/-- an object outside of the view changes -/
theorem Grow.poke {U H U' H' : Hp} (x : Grow U H U' H') {D : Addr} {o : HO} (h : U' D = none) : Grow U H U' (upd H' D o) :=
  ⟨x.vv, fun b u e => by
    have hb : b ≠ D := fun z => by rw [z, h] at e; cases e
    rw [upd_ne hb]; exact x.vh b u e, x.nw⟩
theorem same_poke {U H : Hp} (s : Same U H) {D : Addr} {o : HO} (h : U D = none) : Same U (upd H D o) := fun b u e => by
  have hb : b ≠ D := fun z => by rw [z, h] at e; cases e
  rw [upd_ne hb]; exact s b u e
/-- what was new behind a change of what the view has not is new ahead of it, if that was there -/
theorem Grow.from_ {U H H1 U' H' : Hp} (x : Grow U H1 U' H') (h : ∀ a, H1 a = none → H a = none) : Grow U H U' H' :=
  ⟨x.vv, x.vh, fun a e => (x.nw a e).imp id (h a)⟩
theorem Grow.trans {U H U1 H1 U2 H2 : Hp} (a : Grow U H U1 H1) (b : Grow U1 H1 U2 H2) (h : ∀ a, H1 a = none → H a = none) : Grow U H U2 H2 :=
  ⟨a.vv.trans b.vv, b.vh, fun x e => by
    rcases b.nw x e with q | q
    · exact a.nw x q
    · exact Or.inr (h x q)⟩
theorem none_poke {H : Hp} {D : Addr} {o : HO} (hd : H D ≠ none) : ∀ a, upd H D o a = none → H a = none := fun a e => by
  by_cases h : a = D
  · subst h; rw [upd_same] at e; cases e
  · rw [upd_ne h] at e; exact e
theorem none_same {H H' : Hp} (s : Same H H') : ∀ a, H' a = none → H a = none := fun a e => s.free e
/-! ### cutting octets that come in portions -/
theorem numAt_app {A B : List Int} {p n : Nat} (h : p + n ≤ A.length) : numAt (A ++ B) p n = numAt A p n := by
  unfold numAt
  congr 1
  refine List.map_congr_left fun k hk => ?_
  have := List.mem_range.mp hk
  rw [List.getD_eq_getElem?_getD, List.getD_eq_getElem?_getD, List.getElem?_append_left (by omega)]
theorem numAt_drop (A : List Int) (q j n : Nat) : numAt A (q + j) n = numAt (A.drop q) j n := by
  unfold numAt
  congr 1
  refine List.map_congr_left fun k _ => ?_
  rw [List.getD_eq_getElem?_getD, List.getD_eq_getElem?_getD, List.getElem?_drop, Nat.add_assoc]
theorem isSize_b {s : Int} (h : isSize s = true) : 8 ≤ s ∧ s ≤ 20480 := by
  have := of_decide_eq_true h
  omega
theorem msgAt_app {A B : List Int} {p : Nat} {s : Int} (h8 : 8 ≤ s) (h : (p : Int) + s ≤ A.length) : msgAt (A ++ B) p s = msgAt A p s := by
  unfold msgAt
  rw [numAt_app (by omega), numAt_app (by omega), List.drop_append_of_le_length (by omega), List.take_append_of_le_length (by rw [List.length_drop]; omega)]
theorem msgAt_drop (A : List Int) (q j : Nat) (s : Int) : msgAt A (q + j) s = msgAt (A.drop q) j s := by
  unfold msgAt
  rw [numAt_drop, show q + j + 4 = q + (j + 4) by omega, numAt_drop, List.drop_drop, show q + j + 8 = q + (j + 8) by omega]
theorem cutF_fuel {xs : List Int} : ∀ f g p, xs.length < p + f → xs.length < p + g → cutF xs f p = cutF xs g p
  | 0, 0, _, _, _ => rfl
  | 0, g + 1, p, h1, h2 => by unfold cutF; rw [if_pos (by omega)]
  | f + 1, 0, p, h1, h2 => by unfold cutF; rw [if_pos (by omega)]
  | f + 1, g + 1, p, h1, h2 => by
    unfold cutF
    by_cases c1 : xs.length < p + 8
    · rw [if_pos c1, if_pos c1]
    rw [if_neg c1, if_neg c1]
    by_cases c2 : isSize (numAt xs (p + 6) 2) = false
    · rw [if_pos c2, if_pos c2]
    rw [if_neg c2, if_neg c2]
    by_cases c3 : (xs.length : Int) < p + numAt xs (p + 6) 2
    · rw [if_pos c3, if_pos c3]
    rw [if_neg c3, if_neg c3]
    have b := isSize_b (by simpa using c2)
    rw [cutF_fuel f g (p + (numAt xs (p + 6) 2).toNat) (by omega) (by omega)]
theorem cutF_drop {xs : List Int} {q : Nat} (hq : q ≤ xs.length) : ∀ f j, cutF xs f (q + j) = ((cutF (xs.drop q) f j).1, q + (cutF (xs.drop q) f j).2.1, (cutF (xs.drop q) f j).2.2)
  | 0, j => rfl
  | f + 1, j => by
    unfold cutF
    rw [show q + j + 6 = q + (j + 6) by omega, numAt_drop, List.length_drop, msgAt_drop]
    by_cases c1 : xs.length < q + j + 8
    · rw [if_pos c1, if_pos (by omega)]
    rw [if_neg c1, if_neg (show ¬ xs.length - q < j + 8 by omega)]
    by_cases c2 : isSize (numAt (xs.drop q) (j + 6) 2) = false
    · rw [if_pos c2, if_pos c2]
    rw [if_neg c2, if_neg c2]
    by_cases c3 : (xs.length : Int) < ((q + j : Nat) : Int) + numAt (xs.drop q) (j + 6) 2
    · rw [if_pos c3, if_pos (by omega)]
    rw [if_neg c3, if_neg (show ¬ ((xs.length - q : Nat) : Int) < (j : Int) + numAt (xs.drop q) (j + 6) 2 by omega)]
    have ih := cutF_drop hq f (j + (numAt (xs.drop q) (j + 6) 2).toNat)
    rw [← Nat.add_assoc] at ih
    rw [ih]
theorem cutF_app {A B : List Int} : ∀ f p, A.length < p + f → p ≤ A.length → ∀ g, (A ++ B).length < p + g →
    ∃ g', (A ++ B).length < (cutF A f p).2.1 + g' ∧ cutF (A ++ B) g p = ((cutF A f p).1 ++ (cutF (A ++ B) g' (cutF A f p).2.1).1, (cutF (A ++ B) g' (cutF A f p).2.1).2)
  | 0, p, h1, h2, g, h3 => by omega
  | f + 1, p, h1, h2, g, h3 => by
    have stay : (cutF A (f + 1) p).1 = [] → (cutF A (f + 1) p).2.1 = p → ∃ g', (A ++ B).length < (cutF A (f + 1) p).2.1 + g' ∧ cutF (A ++ B) g p = ((cutF A (f + 1) p).1 ++ (cutF (A ++ B) g' (cutF A (f + 1) p).2.1).1, (cutF (A ++ B) g' (cutF A (f + 1) p).2.1).2) := by
      intro e1 e2
      rw [e1, e2]
      exact ⟨g, h3, rfl⟩
    by_cases c1 : A.length < p + 8
    · exact stay (by unfold cutF; rw [if_pos c1]) (by unfold cutF; rw [if_pos c1])
    by_cases c2 : isSize (numAt A (p + 6) 2) = false
    · exact stay (by unfold cutF; rw [if_neg c1, if_pos c2]) (by unfold cutF; rw [if_neg c1, if_pos c2])
    by_cases c3 : (A.length : Int) < p + numAt A (p + 6) 2
    · exact stay (by unfold cutF; rw [if_neg c1, if_neg c2, if_pos c3]) (by unfold cutF; rw [if_neg c1, if_neg c2, if_pos c3])
    have b := isSize_b (by simpa using c2)
    have hl : (A ++ B).length = A.length + B.length := List.length_append
    obtain ⟨g1, rfl⟩ : ∃ g1, g = g1 + 1 := ⟨g - 1, by omega⟩
    have eA : cutF A (f + 1) p = (msgAt A p (numAt A (p + 6) 2) :: (cutF A f (p + (numAt A (p + 6) 2).toNat)).1, (cutF A f (p + (numAt A (p + 6) 2).toNat)).2) := by
      rw [cutF, if_neg c1, if_neg c2, if_neg c3]
    have eB : cutF (A ++ B) (g1 + 1) p = (msgAt A p (numAt A (p + 6) 2) :: (cutF (A ++ B) g1 (p + (numAt A (p + 6) 2).toNat)).1, (cutF (A ++ B) g1 (p + (numAt A (p + 6) 2).toNat)).2) := by
      rw [cutF, numAt_app (A := A) (B := B) (p := p + 6) (by omega), if_neg (by omega), if_neg c2, if_neg (by omega), msgAt_app (A := A) (B := B) b.1 (by omega)]
    obtain ⟨g', e1, e2⟩ := cutF_app (A := A) (B := B) f (p + (numAt A (p + 6) 2).toNat) (by omega) (by omega) g1 (by omega)
    rw [eA]
    refine ⟨g', e1, ?_⟩
    rw [eB, e2]; rfl
theorem cutR_app (A B : List Int) : cutR (A ++ B) = ((cutR A).1 ++ (cutR (A.drop (cutR A).2.1 ++ B)).1, (cutR A).2.1 + (cutR (A.drop (cutR A).2.1 ++ B)).2.1, (cutR (A.drop (cutR A).2.1 ++ B)).2.2) := by
  obtain ⟨g', e1, e2⟩ := cutF_app (A := A) (B := B) (A.length + 1) 0 (by omega) (Nat.zero_le _) ((A ++ B).length + 1) (by omega)
  have hq := cutR_le A
  have hl : (A ++ B).length = A.length + B.length := List.length_append
  have e : (A ++ B).drop (cutR A).2.1 = A.drop (cutR A).2.1 ++ B := List.drop_append_of_le_length hq
  have e3 := cutF_drop (xs := A ++ B) (q := (cutR A).2.1) (by omega) g' 0
  rw [e, Nat.add_zero] at e3
  have e4 : cutF (A.drop (cutR A).2.1 ++ B) g' 0 = cutR (A.drop (cutR A).2.1 ++ B) := by
    unfold cutR
    refine cutF_fuel _ _ _ ?_ (by omega)
    have e5 : (A.drop (cutR A).2.1 ++ B).length = A.length - (cutR A).2.1 + B.length := by rw [List.length_append, List.length_drop]
    have e1' : (A ++ B).length < (cutR A).2.1 + g' := e1
    unfold cutR at e1' e5 hq
    omega
  rw [e4] at e3
  show cutF (A ++ B) ((A ++ B).length + 1) 0 = _
  refine e2.trans ?_
  show ((cutR A).1 ++ (cutF (A ++ B) g' (cutR A).2.1).1, (cutF (A ++ B) g' (cutR A).2.1).2) = _
  rw [e3]
/-! ### a Cutter -/
def cF (d : Addr) (ft : Bool) : List (Str × V) := [("_octets", .ref d), ("_fault", .bl ft)]
structure CutAt (C : Addr) (H : Hp) (o d : Addr) (us : List Int) (ft : Bool) : Prop where
  ob : ∃ dx, H o = some (.ins C dx (cF d ft))
  ls : H d = some (.lst (us.map V.int))
theorem CutAt.ne {C o d : Addr} {H : Hp} {us : List Int} {ft : Bool} (h : CutAt C H o d us ft) : o ≠ d := by
  obtain ⟨dx, e⟩ := h.ob
  exact ne_of e h.ls (by intro z; cases z)
theorem CutAt.same {C o d : Addr} {H H' : Hp} {us : List Int} {ft : Bool} (h : CutAt C H o d us ft) (s : Same H H') : CutAt C H' o d us ft := by
  obtain ⟨dx, e⟩ := h.ob
  exact ⟨⟨dx, s _ _ e⟩, s _ _ h.ls⟩
theorem cF_o (d : Addr) (ft : Bool) : (cF d ft).lookup ("_octets" : Str) = some (.ref d) := by
  unfold cF; rw [List.lookup_cons_self]
theorem cF_f (d : Addr) (ft : Bool) : (cF d ft).lookup ("_fault" : Str) = some (.bl ft) := by
  unfold cF
  rw [List.lookup_cons, show (("_fault" : Str) == ("_octets" : Str)) = false by decide +kernel]
  rw [List.lookup_cons_self]
theorem cF_put (d : Addr) (ft ft' : Bool) : putF "_fault" (.bl ft') (cF d ft) = cF d ft' := by
  unfold cF
  show (if ("_octets" : Str) = "_fault" then _ else (("_octets" : Str), V.ref d) :: putF "_fault" (V.bl ft') [("_fault", .bl ft)]) = _
  rw [if_neg (by decide +kernel)]
  show _ :: (if ("_fault" : Str) = "_fault" then _ else _) = _
  rw [if_pos rfl]
theorem cF_new (d : Addr) (ft : Bool) : putF "_fault" (.bl ft) (putF "_octets" (.ref d) []) = cF d ft := by
  show (if ("_octets" : Str) = "_fault" then _ else (("_octets" : Str), V.ref d) :: putF "_fault" (V.bl ft) []) = _
  rw [if_neg (by decide +kernel)]; rfl
theorem cF_no (d : Addr) (ft : Bool) {m : Str} (h1 : (m == ("_octets" : Str)) = false) (h2 : (m == ("_fault" : Str)) = false) : (cF d ft).lookup m = none := by
  unfold cF
  rw [List.lookup_cons, h1, List.lookup_cons, h2]; rfl
def sp_Cutter___init__ (C : Addr) : Sp := fun vs H Q _ => ∃ (o dx : Addr), vs = [.ref o] ∧ H o = some (.ins C dx []) ∧ ∀ (d : Addr) (H' : Hp), CutAt C H' o d [] false → H d = none → (∀ b u, H b = some u → b ≠ o → H' b = some u) → Q .non H'
theorem sc_Cutter___init__ : FnScope ["self"] ["self"] (defScope s_Cutter___init__) := ⟨rfl, rfl, rfl, by decide +kernel, rfl, by decide +kernel, by decide +kernel⟩
theorem ok_Cutter___init__ (T : Txt K mg A) : FnOk P w K mg base CX0 1 A.fCutter___init__ A.dCutter___init__ ["self"] (sp_Cutter___init__ A.CCutter) := by
  refine T.FCutter___init__.ok sc_Cutter___init__ (fun vs H Q E h => ?_) (fun cdv Ar outer s H vs Q E hr h => ?_)
  · obtain ⟨o, dx, rfl, _⟩ := h
    rfl
  · obtain ⟨o, dx, rfl, ho, q⟩ := h
    refine ⟨_, (pss_cons (ps_fld (pv 0) (pe_lst pa_nil) rfl)
      (pss_one (ps_fld (pv 0) pe_bl rfl))), ?_⟩
    refine ⟨len_line (by show 0 ≤ 100000; decide), fun d hd => ?_⟩
    have hod : o ≠ d := ne_of_none ho hd
    have ho2 : (upd H d (.lst [])) o = some (.ins A.CCutter dx []) := by rw [upd_ne hod]; exact ho
    refine ⟨_, rfl, o, _, dx, _, rfl, ho2, T.clCutter, T.nCutter__octets, (by show 0 < 1000; decide), ?_⟩
    refine ⟨_, rfl, o, _, dx, _, rfl, upd_same, T.clCutter, T.nCutter__fault, (by show 1 < 1000; decide), ?_⟩
    refine q d _ ⟨⟨dx, ?_⟩, ?_⟩ hd fun b u e hb => ?_
    · rw [upd_same]
      exact congrArg (fun z => some (HO.ins _ dx z)) (cF_new d false)
    · rw [upd_ne hod.symm, upd_ne hod.symm, upd_same]; rfl
    · rw [upd_ne hb, upd_ne hb, upd_ne (ne_of_none e hd)]; exact e
def sp_Cutter_fault (C : Addr) : Sp := fun vs H Q _ => ∃ (o d : Addr) (us : List Int) (ft : Bool), vs = [.ref o] ∧ CutAt C H o d us ft ∧ Q (.bl ft) H
theorem sc_Cutter_fault : FnScope ["self"] ["self"] (defScope s_Cutter_fault) := ⟨rfl, rfl, rfl, by decide +kernel, rfl, by decide +kernel, by decide +kernel⟩
theorem ok_Cutter_fault (T : Txt K mg A) : FnOk P w K mg base CX0 1 A.fCutter_fault A.dCutter_fault ["self"] (sp_Cutter_fault A.CCutter) := by
  refine T.FCutter_fault.ok sc_Cutter_fault (fun vs H Q E h => ?_) (fun cdv Ar outer s H vs Q E hr h => ?_)
  · obtain ⟨o, d, us, ft, rfl, _⟩ := h
    rfl
  · obtain ⟨o, d, us, ft, rfl, ho, q⟩ := h
    obtain ⟨dx, h1⟩ := ho.ob
    refine ⟨_, (pss_one (ps_ret (pe_fld (pv 0) rfl))), ?_⟩
    exact ⟨_, rfl, o, _, dx, _, _, rfl, h1, T.clCutter, T.nCutter__fault, cF_f _ _, q⟩
def sp_Cutter_uncut (C : Addr) : Sp := fun vs H Q _ => ∃ (o d : Addr) (us : List Int) (ft : Bool), vs = [.ref o] ∧ CutAt C H o d us ft ∧ ∀ p, H p = none → Q (.ref p) (upd H p (.lst (us.map V.int)))
theorem sc_Cutter_uncut : FnScope ["self"] ["self"] (defScope s_Cutter_uncut) := ⟨rfl, rfl, rfl, by decide +kernel, rfl, by decide +kernel, by decide +kernel⟩
theorem ok_Cutter_uncut (T : Txt K mg A) : FnOk P w K mg base CX0 1 A.fCutter_uncut A.dCutter_uncut ["self"] (sp_Cutter_uncut A.CCutter) := by
  refine T.FCutter_uncut.ok sc_Cutter_uncut (fun vs H Q E h => ?_) (fun cdv Ar outer s H vs Q E hr h => ?_)
  · obtain ⟨o, d, us, ft, rfl, _⟩ := h
    rfl
  · obtain ⟨o, d, us, ft, rfl, ho, q⟩ := h
    obtain ⟨dx, h1⟩ := ho.ob
    refine ⟨_, (pss_one (ps_ret (pe_callTy call_list_of (by rfl) T.list (by decide +kernel) (pa_cons (pe_fld (pv 0) rfl) pa_nil)))), ?_⟩
    exact ⟨_, rfl, o, _, dx, _, _, rfl, h1, T.clCutter, T.nCutter__octets, cF_o _ _, d, _, rfl, .inl (SqL.of ho.ls), fun p hp => q p hp⟩
def sp_Cutter_feed (C : Addr) (K : PySem.W.Frag) : Sp := fun vs H Q _ => ∃ (o d b : Addr) (us zs : List Int) (ft : Bool) (U : Hp), vs = [.ref o, .ref b] ∧ CutAt C H o d us ft ∧ H b = some (.lst (zs.map V.int)) ∧ Same U H ∧ U o = none ∧ U d = none ∧ okOcts us ∧ okOcts zs ∧ us.length + zs.length < 80000 ∧
  ∀ v U' H', Grow U H U' H' → (∀ c u, H c = some u → c ≠ o → c ≠ d → H' c = some u) → CutAt C H' o d ((us ++ zs).drop (cutR (us ++ zs)).2.1) (cutR (us ++ zs)).2.2 → (∃ m ys, v = .ref m ∧ U' m = some (.lst ys) ∧ DpAll K U' ys ((cutR (us ++ zs)).1.map msgD)) → Q v H'
theorem sc_Cutter_feed : FnScope ["self", "octets", "messages", "at", "fault"] ["self", "octets"] (defScope s_Cutter_feed) := ⟨rfl, rfl, rfl, by decide +kernel, rfl, by decide +kernel, by decide +kernel⟩
theorem ok_Cutter_feed (T : Txt K mg A) : FnOk P w K mg base CX0 3 A.fCutter_feed A.dCutter_feed ["self", "octets"] (sp_Cutter_feed A.CCutter K) := by
  refine T.FCutter_feed.ok sc_Cutter_feed (fun vs H Q E h => ?_) (fun cdv Ar outer s H vs Q E hr h => ?_)
  · obtain ⟨o, d, b, us, zs, ft, U, rfl, _⟩ := h
    rfl
  · obtain ⟨o, d, b, us, zs, ft, U, rfl, ho, hb, sU, uo, ud, ok1, ok2, hl, q⟩ := h
    obtain ⟨dx, h1⟩ := ho.ob
    have hne := ho.ne
    refine ⟨_, (pss_cons (ps_expr (pe_bm PySem.F.plainAttrs_list PySem.F.slot_list_extend PySem.F.type_list_extend mt_extend (pe_fld (pv 0) rfl) (pa_cons (pv 1) pa_nil)))
      (pss_cons (ps_asg (pe_call (ok__cut T) (hr.mono (by decide)) rfl T.g_cut T.k_cut T.b_cut .nil pass0 (pa_cons (pe_fld (pv 0) rfl) pa_nil)) (pg_tup rfl (pgs_cons (pg_name (i := 2) sc_Cutter_feed.nd rfl (Or.inl rfl)) (pgs_cons (pg_name (i := 3) sc_Cutter_feed.nd rfl (Or.inl rfl)) (pgs_cons (pg_name (i := 4) sc_Cutter_feed.nd rfl (Or.inl rfl)) pgs_nil)))))
      (pss_cons (ps_fld (pv 0) (pv 4) rfl)
      (pss_cons (ps_delTo (pe_fld (pv 0) rfl) (po_some (pv 3)))
      (pss_one (ps_ret (pv 2))))))), ?_⟩
    refine ⟨_, rfl, o, _, dx, _, _, rfl, h1, T.clCutter, T.nCutter__octets, cF_o _ _, .inl ⟨rfl, _, SqL.of ho.ls⟩, _, rfl, d, b, _, _, rfl, rfl, ho.ls, hb, ?_, ?_⟩
    · rw [List.length_map, List.length_map]; exact len_line (by omega)
    rw [← List.map_append]
    have e2 : (upd H d (.lst ((us ++ zs).map V.int))) d = some (.lst ((us ++ zs).map V.int)) := upd_same
    have o2 : (upd H d (.lst ((us ++ zs).map V.int))) o = some (.ins A.CCutter dx (cF d ft)) := by rw [upd_ne hne]; exact h1
    have s2 := same_poke sU (o := .lst ((us ++ zs).map V.int)) ud
    have b2 : ∀ c u, H c = some u → c ≠ o → c ≠ d → (upd H d (.lst ((us ++ zs).map V.int))) c = some u := fun c u e _ n => by rw [upd_ne n]; exact e
    have n2 : ∀ c, (upd H d (.lst ((us ++ zs).map V.int))) c = none → H c = none := none_poke (by rw [ho.ls]; exact fun z => by cases z)
    generalize upd H d (.lst ((us ++ zs).map V.int)) = H2 at e2 o2 s2 b2 n2 ⊢
    refine ⟨_, rfl, o, _, dx, _, _, rfl, o2, T.clCutter, T.nCutter__octets, cF_o _ _, d, us ++ zs, U, rfl, s2, SqL.of e2, ?_, by rw [List.length_append]; omega, fun p m U3 H3 x3 t3 d3 m3 => ?_⟩
    · intro x hx
      rcases List.mem_append.mp hx with h | h
      · exact ok1 x h
      · exact ok2 x h
    have hle := cutR_le (us ++ zs)
    have e3 := x3.hh _ _ e2
    have o3 := x3.hh _ _ o2
    have uo3 : U3 o = none := x3.keepOut uo (by rw [o2]; exact fun z => by cases z)
    have ud3 : U3 d = none := x3.keepOut ud (by rw [e2]; exact fun z => by cases z)
    refine ⟨p, _, rfl, SqT.of (x3.vh _ _ t3), rfl, _, _, rfl, _, _, rfl, _, _, rfl, rfl, ?_⟩
    refine ⟨_, rfl, _, rfl, o, _, dx, _, rfl, o3, T.clCutter, T.nCutter__fault, (by show 2 < 1000; decide), ?_⟩
    rw [cF_put]
    have e4 : (upd H3 o (.ins A.CCutter dx (cF d (cutR (us ++ zs)).2.2))) d = some (.lst ((us ++ zs).map V.int)) := by rw [upd_ne hne.symm]; exact e3
    refine ⟨_, rfl, o, _, dx, _, _, rfl, upd_same, T.clCutter, T.nCutter__octets, cF_o _ _, ?_⟩
    refine ⟨_, rfl, _, rfl, d, _, (cutR (us ++ zs)).2.1, rfl, rfl, e4, by rw [List.length_map]; exact hle, ?_⟩
    refine ⟨_, rfl, ?_⟩
    rw [← List.map_drop]
    refine q _ U3 _ (((x3.grow.from_ n2).poke uo3).poke ud3) (fun c u e n1 n3 => ?_) ⟨⟨dx, ?_⟩, upd_same⟩ (by obtain ⟨ys, e, dd⟩ := m3; exact ⟨m, ys, rfl, e, dd⟩)
    · rw [upd_ne n3, upd_ne n1]
      exact x3.hh _ _ (b2 c u e n1 n3)
    · rw [upd_ne hne]; exact upd_same
theorem cutV_part {xs : List V} {i j : Nat} (h : i ≤ xs.length) (hij : i ≤ j) : cutV xs (some (i : Int)) (some (j : Int)) = (xs.drop i).take (j - i) := by
  unfold cutV
  rw [HT.sIx_nat, HT.sIx_nat, Nat.min_eq_left h]
  by_cases c : j ≤ xs.length
  · rw [Nat.min_eq_left c]
  · rw [Nat.min_eq_right (by omega), List.take_of_length_le (by rw [List.length_drop]; omega), List.take_of_length_le (by rw [List.length_drop]; omega)]
theorem ok_take {xs : List Int} (h : okOcts xs) (n : Nat) : okOcts (xs.take n) := fun x hx => h x (List.mem_of_mem_take hx)
theorem ok_drop {xs : List Int} (h : okOcts xs) (n : Nat) : okOcts (xs.drop n) := fun x hx => h x (List.mem_of_mem_drop hx)
theorem cutF_len {xs : List Int} : ∀ f p, (cutF xs f p).1.length ≤ f
  | 0, _ => Nat.le_refl _
  | f + 1, p => by
    unfold cutF
    repeat' split
    · exact Nat.zero_le _
    · exact Nat.zero_le _
    · exact Nat.zero_le _
    · exact Nat.succ_le_succ (cutF_len f _)
theorem cutR_len (xs : List Int) : (cutR xs).1.length ≤ xs.length + 1 := cutF_len _ _
theorem cut_nil : cutR [] = ([], 0, false) := rfl
def InvK (K : PySem.W.Frag) (C : Addr) (ns xs : List Int) (a p1 o d : Addr) (f : Nat) (σ : St) (H : Hp) : Prop :=
  ∃ (pm : Addr) (ys : List V) (pl k : Nat) (U : Hp) (v6 v7 v8 v9 v10 : Option V), σ = [some (.ref a), some (.ref p1), some (.ref o), some (.ref pm), some (.int (pl : Int)), some (.int (k : Int)), v6, v7, v8, v9, v10] ∧ Same U H ∧ U o = none ∧ U d = none ∧
    SqL K U a (ns.map V.int) ∧ SqL K U p1 (xs.map V.int) ∧ pl ≤ xs.length ∧ CutAt C H o d ((xs.take pl).drop (cutR (xs.take pl)).2.1) (cutR (xs.take pl)).2.2 ∧ U pm = some (.lst ys) ∧ DpAll K U ys ((cutR (xs.take pl)).1.map msgD) ∧ f = (xs.length - pl) * 41 + (40 - k % 40)
theorem sc_law : FnScope ["script", "octets", "cutter", "messages", "at", "k", "size", "portion", "kept", "due", "spoilt"] ["script"] (defScope s_law) := ⟨rfl, rfl, rfl, by decide +kernel, rfl, by decide +kernel, by decide +kernel⟩
theorem ok_law (T : Txt K mg A) : FnOk P w K mg base CX0 4 A.flaw A.dlaw ["script"] (sp_law K) := by
  refine T.Flaw.ok sc_law (fun vs H Q E h => ?_) (fun cdv Ar outer s H vs Q E hr h => ?_)
  · obtain ⟨a, ns, rfl, _⟩ := h
    rfl
  · obtain ⟨a, ns, rfl, hS, hlen, q⟩ := h
    refine ⟨_, (pss_cons (ps_set (i := 1) sc_law.nd rfl (Or.inl rfl) (pe_call (ok__law_stream T) (hr.mono (by decide)) rfl T.g_law_stream T.k_law_stream T.b_law_stream .nil pass0 (pa_cons (pv 0) (pa_cons (pe_op op_add (pe_callB (call_min2 rfl) (by rfl) T.min (by decide +kernel) (pa_cons (pe_callB call_len_seq (by rfl) T.len PySem.boot_len (pa_cons (pv 0) pa_nil)) (pa_cons pe_int pa_nil))) pe_int) pa_nil))))
      (pss_cons (ps_set (i := 2) sc_law.nd rfl (Or.inl rfl) (pe_make0 T.MCutter (ok_Cutter___init__ T) (hr.mono (by decide)) rfl T.gCutter T.bCutter___init__ .nil pass0))
      (pss_cons (ps_if (PW.pt (pw_or (pt_val (pe_prop (pv 2) T.clCutter T.pCutter_fault (ok_Cutter_fault T) (hr.mono (by decide)) T.bCutter_fault .nil pass0 rfl)) (pw_or (pt_cmpR (op_neD hr.units) (pe_prop (pv 2) T.clCutter T.pCutter_uncut (ok_Cutter_uncut T) (hr.mono (by decide)) T.bCutter_uncut .nil pass0 rfl) (pe_lst pa_nil) (nomark _)) (pw_or1 (pt_cmpR (op_neD hr.units) (pe_meth (pv 2) T.clCutter T.mCutter_feed (ok_Cutter_feed T) (hr.mono (by decide)) T.bCutter_feed .nil pass0 (pa_cons (pe_lst pa_nil) pa_nil)) (pe_lst pa_nil) (nomark _))))))
      (pss_one (ps_ret pe_bl))
      pss_nil)
      (pss_cons (ps_set (i := 3) sc_law.nd rfl (Or.inl rfl) (pe_lst pa_nil))
      (pss_cons (ps_set (i := 4) sc_law.nd rfl (Or.inl rfl) pe_int)
      (pss_cons (ps_set (i := 5) sc_law.nd rfl (Or.inl rfl) pe_int)
      (pss_cons (ps_while PassesOwn.never (pt_cmpR op_lt (pv 4) (pe_callB call_len_seq (by rfl) T.len PySem.boot_len (pa_cons (pv 1) pa_nil)) (nomark _))
      (pss_cons (ps_set (i := 6) sc_law.nd rfl (Or.inl rfl) (pe_op op_mod (pe_callTy call_int1 (by rfl) T.int (by decide +kernel) (pa_cons (pe_call (ok__law_row T) (hr.mono (by decide)) rfl T.g_law_row T.k_law_row T.b_law_row .nil pass0 (pa_cons (pv 0) (pa_cons (pe_op op_add pe_int (pv 5)) pa_nil))) pa_nil)) pe_int))
      (C8.pss_cut (ps_if (pt_cmpR op_eq (pe_op op_mod (pe_callTy call_int1 (by rfl) T.int (by decide +kernel) (pa_cons (pv 5) pa_nil)) pe_int) pe_int (nomark _))
      (pss_one (ps_set (i := 6) sc_law.nd rfl (Or.inl rfl) pe_int))
      pss_nil)
      (pss_cons (ps_set (i := 7) sc_law.nd rfl (Or.inl rfl) (pe_slice (r := rSlL K) sl_list (pv 1) (po_some (pv 4)) (po_some (pe_op op_add (pv 4) (pv 6)))))
      (pss_cons (ps_set (i := 8) sc_law.nd rfl (Or.inl rfl) (pe_callTy call_list_of (by rfl) T.list (by decide +kernel) (pa_cons (pv 7) pa_nil)))
      (pss_cons (ps_set (i := 3) sc_law.nd rfl (Or.inl rfl) (pe_op op_cat (pv 3) (pe_meth (pv 2) T.clCutter T.mCutter_feed (ok_Cutter_feed T) (hr.mono (by decide)) T.bCutter_feed .nil pass0 (pa_cons (pv 7) pa_nil))))
      (pss_cons (ps_if (pt_cmpR (op_neD hr.units) (pv 7) (pv 8) (nomark _))
      (pss_one (ps_ret pe_bl))
      pss_nil)
      (pss_cons (ps_set (i := 4) sc_law.nd rfl (Or.inl rfl) (pe_op op_add (pv 4) (pe_callB call_len_seq (by rfl) T.len PySem.boot_len (pa_cons (pv 7) pa_nil))))
      (pss_cons (ps_set (i := 5) sc_law.nd rfl (Or.inl rfl) (pe_op op_add (pv 5) pe_int))
      (pss_cons (ps_set (i := 9) sc_law.nd rfl (Or.inl rfl) (pe_call (ok_cut_messages T) (hr.mono (by decide)) rfl T.gcut_messages T.kcut_messages T.bcut_messages .nil pass0 (pa_cons (pe_slice (r := rSlL K) sl_list (pv 1) po_none (po_some (pv 4))) pa_nil)))
      (pss_one (ps_if (PW.pt (pw_or (pt_cmpR (op_neD hr.units) (pv 3) (pe_ix (r := rIxT K) ix_tup (pv 9) pe_int (fun _ _ => rfl)) (nomark _)) (pw_or (pt_cmpR (op_neD hr.units) (pe_prop (pv 2) T.clCutter T.pCutter_fault (ok_Cutter_fault T) (hr.mono (by decide)) T.bCutter_fault .nil pass0 rfl) (pe_ix (r := rIxT K) ix_tup (pv 9) pe_int (fun _ _ => rfl)) (nomark _)) (pw_or1 (pt_cmpR (op_neD hr.units) (pe_prop (pv 2) T.clCutter T.pCutter_uncut (ok_Cutter_uncut T) (hr.mono (by decide)) T.bCutter_uncut .nil pass0 rfl) (pe_ix (r := rIxT K) ix_tup (pv 9) pe_int (fun _ _ => rfl)) (nomark _))))))
      (pss_one (ps_ret pe_bl))
      pss_nil))))))))))))
      (pss_cons (ps_set (i := 10) sc_law.nd rfl (Or.inl rfl) (pe_prop (pv 2) T.clCutter T.pCutter_uncut (ok_Cutter_uncut T) (hr.mono (by decide)) T.bCutter_uncut .nil pass0 rfl))
      (pss_cons (ps_expr (pe_bm PySem.F.plainAttrs_list PySem.F.slot_list_append PySem.F.type_list_append mt_append (pv 10) (pa_cons pe_int pa_nil)))
      (pss_one (ps_ret (pe_cmpR (op_eqD hr.units) (pe_prop (pv 2) T.clCutter T.pCutter_uncut (ok_Cutter_uncut T) (hr.mono (by decide)) T.bCutter_uncut .nil pass0 rfl) (pe_ix (r := rIxT K) ix_tup (pe_call (ok_cut_messages T) (hr.mono (by decide)) rfl T.gcut_messages T.kcut_messages T.bcut_messages .nil pass0 (pa_cons (pv 1) pa_nil)) pe_int (fun _ _ => rfl)) (nomark _))))))))))))), ?_⟩
    walk_at "go"
    refine ⟨a, ns, min ns.length 40 + 2, ?_, hS, by omega, fun p1 H1 xs n1 ho hl => ?_⟩
    · have : (if ((ns.map V.int).length : Int) > 40 then (40 : Int) else ((ns.map V.int).length : Int)) + 2 = ((min ns.length 40 + 2 : Nat) : Int) := by
        rw [List.length_map]; split <;> omega
      first
        | exact congrArg (fun z => [V.ref a, V.int z]) this
        | (show [V.ref a, V.int _] = _; congr 2; rw [List.length_map]; split <;> omega)
    walk_at "go"
    have hS1 := n1.same.seq hS
    have e1 := n1.at_
    intro o dx fo fdx hdo
    refine ⟨o, dx, rfl, upd_same, fun d H2 ob nd b2 => ⟨rfl, ?_⟩⟩
    have s2 : Same H1 H2 := fun c u q => by
      refine b2 c u ?_ (ne_of_none q fo)
      rw [upd_ne (ne_of_none q fo), upd_ne (ne_of_none q fdx)]; exact q
    have hd0 : H1 d = none := by
      have : (upd (upd H1 dx (.own o)) o (.ins A.CCutter dx [])) d = none := nd
      by_cases h1 : d = o
      · subst h1; rw [upd_same] at this; cases this
      · rw [upd_ne h1] at this
        by_cases h2 : d = dx
        · subst h2; exact fdx
        · rw [upd_ne h2] at this; exact this
    obtain ⟨dx2, e2⟩ := ob.ob
    walk_at "go"
    refine ⟨o, dx2, _, rfl, e2, o, d, [], false, rfl, ob, ?_⟩
    walk_at "go"
    refine ⟨o, dx2, _, rfl, e2, o, d, [], false, rfl, ob, fun p3 h3 => ?_⟩
    walk_at "go"
    rename_i p4 h4
    have s3 := same_upd (o := .lst (([] : List Int).map V.int)) h3
    have s4 := same_upd (o := .lst []) h4
    refine t_ne (d := pInts []) (e := pInts []) ((dp_ints (SqL.of upd_same)).to s4) (dp_ints (xs := []) (SqL.of upd_same)) (sh_ints _).shaped (sh_ints _).shaped ⟨_, rfl, ne_self (sh_ints _).shaped rfl ?_⟩
    have ob4 := (ob.same s3).same s4
    have s24 := s2.trans (s3.trans s4)
    clear s2 s3 s4 e2 dx2 ob
    generalize upd (upd H2 p3 (.lst (([] : List Int).map V.int))) p4 (.lst []) = H4 at ob4 s24 ⊢
    obtain ⟨dx2, e2⟩ := ob4.ob
    walk_at "go"
    refine ⟨o, dx2, _, rfl, e2, cF_no _ _ (by decide +kernel) (by decide +kernel), ?_⟩
    walk_at "go"
    rename_i p5 h5
    have s5 := same_upd (o := .lst []) h5
    refine ⟨o, d, p5, [], [], false, H1, rfl, ob4.same s5, upd_same, s24.trans s5, fo, hd0, (fun x hx => by cases hx), (fun x hx => by cases hx), by decide, fun v U6 H6 g6 b6 ob6 dv => ?_⟩
    obtain ⟨m6, y6, rfl, w6, dv⟩ := dv
    have dv : Dp K U6 (.ref m6) (msgsD (cutR ([] ++ [])).1) := .lst (SqL.of w6) dv
    rw [List.append_nil, cut_nil] at ob6 dv
    walk_at "go"
    rename_i p7 h7
    have s7 := same_upd (o := .lst []) h7
    refine t_ne (d := msgsD []) (e := msgsD []) ((dv.to g6.vh).to s7) (.lst (SqL.of upd_same) .nil) (sh_msgs _).shaped (sh_msgs _).shaped ⟨_, rfl, ne_self (sh_msgs _).shaped rfl ?_⟩
    walk_at "go"
    rename_i p8 h8
    have s8 := same_upd (o := .lst []) h8
    have b8 : ∀ U : Hp, Same U H6 → U o = none → U d = none → Same U (upd (upd H6 p7 (.lst [])) p8 (.lst [])) := fun U sU _ _ => (sU.trans s7).trans s8
    have s68 := s7.trans s8
    have ob8 := ob6.same s68
    have n8 : U6 p8 = none := none_of_same (g6.vh.trans s7) h8
    have sU8 : Same (upd U6 p8 (.lst [])) (upd (upd H6 p7 (.lst [])) p8 (.lst [])) := fun c u e => by
      by_cases hc : c = p8
      · subst hc; rw [upd_same] at e ⊢; exact e
      · rw [upd_ne hc] at e ⊢; exact s7 _ _ (g6.vh _ _ e)
    have s1U : Same H1 (upd U6 p8 (.lst [])) := g6.vv.trans (same_upd n8)
    have o8 : (upd U6 p8 (.lst [])) o = none := by
      obtain ⟨dx6, e6⟩ := ob6.ob
      rw [upd_ne (fun z => by rw [← z, s7 _ _ e6] at h8; cases h8)]
      exact g6.keepOut fo (by rw [(same_upd (o := .lst []) h5) _ _ e2]; exact fun z => by cases z)
    have d8 : (upd U6 p8 (.lst [])) d = none := by
      rw [upd_ne (fun z => by rw [← z, s7 _ _ ob6.ls] at h8; cases h8)]
      exact g6.keepOut hd0 (by rw [(same_upd (o := .lst []) h5) _ _ ob4.ls]; exact fun z => by cases z)
    walk_at "go"
    refine ⟨fun f σ H' => InvK K A.CCutter ns xs a p1 o d f σ H', ⟨_, ⟨p8, [], 0, 0, _, _, _, _, _, _, rfl, sU8, o8, d8, s1U.seq hS1, SqL.of (s1U _ _ e1), Nat.zero_le _, ob8, upd_same, .nil, rfl⟩⟩, ?_⟩
    clear ob8 sU8 s1U o8 d8 n8 s68 b8 s8 s7 h7 h8 ob6 dv g6 b6 h5 s5 ob4 s24 e2 nd b2 hd0 e1 n1 hS1 fo fdx hdo
    rintro f σ H1 ⟨pm, ys, pl, k, U, v6, v7, v8, v9, v10, rfl, sU, uo, ud, uS, u1, hpl, ob, em, dm, hf⟩
    have h1S := sU.seq u1
    have hcl := cutR_le (xs.take pl)
    walk_at "go"
    have hlx : (xs.map V.int).length = xs.length := List.length_map ..
    refine iteP (fun hlt => ?_) (fun hlt => ?_)
    · have hlt' : pl < xs.length := by omega
      refine ⟨fun σ' H' => ∃ m', m' < f ∧ InvK K A.CCutter ns xs a p1 o d m' σ' H', fun σ' H' hN => hN, ?_⟩
      walk_at "go"
      refine ⟨a, ns, 100 + k, ?_, sU.seq uS, ?_⟩
      · show [V.ref a, V.int (100 + (k : Int))] = [V.ref a, V.int ((100 + k : Nat) : Int)]
        rw [Int.natCast_add]; rfl
      generalize lawRow ns (100 + k) = row
      walk_at "go"
      refine ⟨fun σ' H' => ∃ sz : Nat, σ' = [some (.ref a), some (.ref p1), some (.ref o), some (.ref pm), some (.int (pl : Int)), some (.int (k : Int)), some (.int (sz : Int)), v7, v8, v9, v10] ∧ H' = H1 ∧ (k % 40 = 39 → 0 < sz), ?_, ?_⟩
      · walk_at "go"
        refine iteEq (fun h => ?_) (fun h => ?_)
        · walk_at "go"
          exact fun _ => by decide
        · refine ⟨(row % 31).toNat, ?_, rfl, fun h2 => absurd (by omega) h⟩
          rw [show (((row % 31).toNat : Nat) : Int) = row % 31 from by omega]; rfl
      rintro σ' H' ⟨sz, rfl, rfl, hsz⟩
      walk_at "go"
      refine ⟨p1, _, rfl, h1S, fun p2 h2 => ?_⟩
      rw [← Int.natCast_add, cutV_part (by omega) (by omega), show pl + sz - pl = sz from by omega, ← List.map_drop, ← List.map_take]
      have oz : okOcts ((xs.drop pl).take sz) := ok_take (ok_drop ho _) _
      have lz : ((xs.drop pl).take sz).length = min sz (xs.length - pl) := by rw [List.length_take, List.length_drop]
      have tz : xs.take (pl + ((xs.drop pl).take sz).length) = xs.take pl ++ (xs.drop pl).take sz := by
        rw [lz, List.take_add]
        congr 1
        rcases Nat.le_total sz (xs.length - pl) with c | c
        · rw [Nat.min_eq_left c]
        · rw [Nat.min_eq_right c, List.take_of_length_le (by rw [List.length_drop]; omega), List.take_of_length_le (by rw [List.length_drop]; omega)]
      generalize (xs.drop pl).take sz = zs at oz lz tz ⊢
      walk_at "go"
      intro p3 h3
      have sp2 := same_upd (o := .lst (zs.map V.int)) h2
      have sp3 := same_upd (o := .lst (zs.map V.int)) h3
      have ob3 := (ob.same sp2).same sp3
      have sU3 := (sU.trans sp2).trans sp3
      have e23 := sp3 _ _ (upd_same : (upd H' p2 (.lst (zs.map V.int))) p2 = some (.lst (zs.map V.int)))
      have e33 : (upd (upd H' p2 (.lst (zs.map V.int))) p3 (.lst (zs.map V.int))) p3 = some (.lst (zs.map V.int)) := upd_same
      have nob : ∀ c, c = p2 ∨ c = p3 → c ≠ o ∧ c ≠ d := by
        obtain ⟨dxo, eo⟩ := ob.ob
        rintro c (rfl | rfl)
        · exact ⟨fun z => (by rw [z, eo] at h2; cases h2), fun z => (by rw [z, ob.ls] at h2; cases h2)⟩
        · exact ⟨fun z => (by rw [z, sp2 _ _ eo] at h3; cases h3), fun z => (by rw [z, sp2 _ _ ob.ls] at h3; cases h3)⟩
      generalize upd (upd H' p2 (.lst (zs.map V.int))) p3 (.lst (zs.map V.int)) = H3 at ob3 sU3 e23 e33 ⊢
      clear sp2 sp3 h2 h3
      obtain ⟨dx3, eo3⟩ := ob3.ob
      walk_at "go"
      refine ⟨o, dx3, _, rfl, eo3, cF_no _ _ (by decide +kernel) (by decide +kernel), ?_⟩
      walk_at "go"
      have okU : okOcts ((xs.take pl).drop (cutR (xs.take pl)).2.1) := ok_drop (ok_take ho _) _
      have lU : ((xs.take pl).drop (cutR (xs.take pl)).2.1).length ≤ 3000 := by rw [List.length_drop, List.length_take]; omega
      refine ⟨o, d, p2, _, zs, _, U, rfl, ob3, e23, sU3, uo, ud, okU, oz, by omega, fun v U4 H4 g4 b4 ob4 dv => ?_⟩
      have hcut := cutR_app (xs.take pl) zs
      rw [← tz] at hcut
      have e24 := b4 _ _ e23 (nob p2 (.inl rfl)).1 (nob p2 (.inl rfl)).2
      have e34 := b4 _ _ e33 (nob p3 (.inr rfl)).1 (nob p3 (.inr rfl)).2
      obtain ⟨mb, yb, rfl, ub, rb⟩ := dv
      have ra := dm.to g4.vv
      have ea4 := g4.vh _ _ (g4.vv _ _ em)
      have eb4 := g4.vh _ _ ub
      refine ⟨_, _, _, _, rfl, rfl, ea4, eb4, ?_, fun p5 h5 => ?_⟩
      · rw [dpall_len ra, dpall_len rb, List.length_map, List.length_map]
        have l1 := cutR_len (xs.take pl)
        have l2 := cutR_len (List.drop (cutR (xs.take pl)).2.1 (xs.take pl) ++ zs)
        rw [List.length_append] at l2
        rw [List.length_take] at l1
        exact len_line (by omega)
      have s5 := same_upd (o := .lst (ys ++ yb)) h5
      have u5 : U4 p5 = none := none_of_same g4.vh h5
      have sU5 : Same (upd U4 p5 (.lst (ys ++ yb))) (upd H4 p5 (.lst (ys ++ yb))) := (Ext.new (o := .lst (ys ++ yb)) g4.vh h5).vh
      have g5 : Same U (upd U4 p5 (.lst (ys ++ yb))) := g4.vv.trans (same_upd u5)
      have d5 : DpAll K (upd U4 p5 (.lst (ys ++ yb))) (ys ++ yb) ((cutR (xs.take (pl + zs.length))).1.map msgD) := by
        rw [hcut, List.map_append]
        exact dpall_app (ra.to (same_upd u5)) (rb.to (same_upd u5))
      have ob5 : CutAt A.CCutter (upd H4 p5 (.lst (ys ++ yb))) o d ((xs.take (pl + zs.length)).drop (cutR (xs.take (pl + zs.length))).2.1) (cutR (xs.take (pl + zs.length))).2.2 := by
        have e := ob4.same s5
        have e2 : (xs.take (pl + zs.length)).drop (cutR (xs.take (pl + zs.length))).2.1 = ((xs.take pl).drop (cutR (xs.take pl)).2.1 ++ zs).drop (cutR ((xs.take pl).drop (cutR (xs.take pl)).2.1 ++ zs)).2.1 := by
          rw [hcut, tz]
          dsimp only
          rw [← List.drop_drop, List.drop_append_of_le_length hcl]
        rw [e2, hcut]
        exact e
      have uo5 : (upd U4 p5 (.lst (ys ++ yb))) o = none := by
        obtain ⟨dx4, eo4⟩ := ob4.ob
        rw [upd_ne (fun z => by rw [← z, eo4] at h5; cases h5)]
        exact g4.keepOut uo (by rw [eo3]; exact fun z => by cases z)
      have ud5 : (upd U4 p5 (.lst (ys ++ yb))) d = none := by
        rw [upd_ne (fun z => by rw [← z, ob4.ls] at h5; cases h5)]
        exact g4.keepOut ud (by rw [ob3.ls]; exact fun z => by cases z)
      have e25 := s5 _ _ e24
      have e35 := s5 _ _ e34
      have em5 : (upd U4 p5 (.lst (ys ++ yb))) p5 = some (.lst (ys ++ yb)) := upd_same
      generalize upd H4 p5 (.lst (ys ++ yb)) = H5 at sU5 ob5 e25 e35 ⊢
      generalize upd U4 p5 (.lst (ys ++ yb)) = U5 at sU5 g5 d5 uo5 ud5 em5
      clear s5 u5 h5 ra rb ea4 eb4 ub e24 e34 hcut b4 g4 ob4 okU lU eo3 dx3 ob3 sU3 e23 e33 nob sU ob dm
      walk_at "go"
      refine t_ne (dp_ints (SqL.of e25)) (dp_ints (SqL.of e35)) (sh_ints _).shaped (sh_ints _).shaped ⟨_, rfl, ne_self (sh_ints _).shaped rfl ?_⟩
      walk_at "go"
      have hpz : pl + zs.length ≤ xs.length := by omega
      have h15 := sU5.seq (g5.seq u1)
      refine ⟨p1, _, rfl, h15, fun p7 h7 => ?_⟩
      rw [List.length_map, ← Int.natCast_add, cutV_to (by rw [List.length_map]; omega), ← List.map_take]
      have s7 := same_upd (o := .lst ((xs.take (pl + zs.length)).map V.int)) h7
      have e7 : (upd H5 p7 (.lst ((xs.take (pl + zs.length)).map V.int))) p7 = some (.lst ((xs.take (pl + zs.length)).map V.int)) := upd_same
      generalize upd H5 p7 (.lst ((xs.take (pl + zs.length)).map V.int)) = H7 at s7 e7 ⊢
      refine ⟨p7, xs.take (pl + zs.length), H7, rfl, Same.refl _, SqL.of e7, ok_take ho _, by rw [List.length_take]; omega, fun p m b U8 H8 x8 t8 d8 dm8 b8 => ?_⟩
      have s58 := s7.trans x8.hh
      have sU8 := sU5.trans s58
      have ob8 := ob5.same s58
      have t8' := x8.vh _ _ t8
      have dm8' := dm8.to x8.vh
      have b8' := x8.vh _ _ b8
      obtain ⟨dx8, eo8⟩ := ob8.ob
      walk_at "go"
      refine t_ne (d := msgsD (cutR (xs.take (pl + zs.length))).1) (.lst (SqL.of (sU8 _ _ em5)) (d5.to sU8)) dm8' (sh_msgs _).shaped (sh_msgs _).shaped ⟨_, rfl, ne_self (sh_msgs _).shaped rfl ?_⟩
      walk_at "go"
      refine ⟨o, dx8, _, rfl, eo8, o, d, _, _, rfl, ob8, ?_⟩
      walk_at "go"
      refine t_ne (.bl _) (.bl _) (sh_bool _).shaped (sh_bool _).shaped ⟨_, rfl, ne_self (sh_bool _).shaped rfl ?_⟩
      walk_at "go"
      refine ⟨o, dx8, _, rfl, eo8, o, d, _, _, rfl, ob8, fun p9 h9 => ?_⟩
      have s9 := same_upd (o := .lst (((xs.take (pl + zs.length)).drop (cutR (xs.take (pl + zs.length))).2.1).map V.int)) h9
      walk_at "go"
      refine t_ne (dp_ints (SqL.of upd_same)) ((dp_ints (SqL.of b8')).to s9) (sh_ints _).shaped (sh_ints _).shaped ⟨_, rfl, ne_self (sh_ints _).shaped rfl ?_⟩
      walk_at "go"
      refine ⟨(xs.length - (pl + zs.length)) * 41 + (40 - (k + 1) % 40), ?_, p5, ys ++ yb, pl + zs.length, k + 1, U5, some (.int (sz : Int)), some (.ref p2), some (.ref p3), some (.ref p), v10, ?_, sU8.trans s9, uo5, ud5, g5.seq uS, g5.seq u1, hpz, ob8.same s9, em5, d5, rfl⟩
      · rw [hf]
        by_cases c : k % 40 = 39
        · have := hsz c
          omega
        · omega
      · rw [Int.natCast_add, Int.natCast_add]; rfl
    · have hpe : pl = xs.length := by omega
      subst hpe
      rw [List.take_length] at ob
      obtain ⟨dx1, eo1⟩ := ob.ob
      walk_at "go"
      refine ⟨o, dx1, _, rfl, eo1, o, d, _, _, rfl, ob, fun p2 h2 => ?_⟩
      have s2 := same_upd (o := .lst ((xs.drop (cutR xs).2.1).map V.int)) h2
      walk_at "go"
      refine ⟨.inl ⟨rfl, _, SqL.of upd_same⟩, ?_⟩
      refine ⟨p2, _, _, rfl, rfl, upd_same, ?_, ?_⟩
      · rw [List.length_map, List.length_drop]; exact lt_line (by omega)
      have s3 : Same H1 (upd (upd H1 p2 (.lst ((xs.drop (cutR xs).2.1).map V.int))) p2 (.lst ((xs.drop (cutR xs).2.1).map V.int ++ [V.int 1]))) := fun c u e => by
        have hc : c ≠ p2 := ne_of_none e h2
        rw [upd_ne hc, upd_ne hc]; exact e
      generalize upd (upd H1 p2 (.lst ((xs.drop (cutR xs).2.1).map V.int))) p2 (.lst ((xs.drop (cutR xs).2.1).map V.int ++ [V.int 1])) = H3 at s3 ⊢
      have ob3 := ob.same s3
      have h13 := s3.seq h1S
      clear ob s2 h2 eo1
      obtain ⟨dx1, eo1⟩ := ob3.ob
      walk_at "go"
      refine ⟨o, dx1, _, rfl, eo1, o, d, _, _, rfl, ob3, fun p4 h4 => ?_⟩
      have s4 := same_upd (o := .lst ((xs.drop (cutR xs).2.1).map V.int)) h4
      have e4 : (upd H3 p4 (.lst ((xs.drop (cutR xs).2.1).map V.int))) p4 = some (.lst ((xs.drop (cutR xs).2.1).map V.int)) := upd_same
      generalize upd H3 p4 (.lst ((xs.drop (cutR xs).2.1).map V.int)) = H4 at s4 e4 ⊢
      walk_at "go"
      refine ⟨p1, xs, H4, rfl, Same.refl _, s4.seq h13, ho, by omega, fun p m b U8 H8 x8 t8 d8 dm8 b8 => ?_⟩
      have t8' := x8.vh _ _ t8
      have b8' := x8.vh _ _ b8
      walk_at "go"
      refine t_eq ((dp_ints (SqL.of e4)).to x8.hh) (dp_ints (SqL.of b8')) (sh_ints _).shaped (sh_ints _).shaped ?_
      rw [(sh_ints _).self]
      exact q _
end
theorem all_mk {K : PySem.W.Frag} {h : Heap} {mg : Str → Option Value} {fa : Addr} (X : K.In h) (G : h.Ns mainGlobals mg) (hfa : mg "law" = some (.ref fa))
    {fnumber_at : Addr} {od1 an1 : Option Addr} {sl1 : Array (Option Value)} {oc1 kV1 dc1 pm1 cd1 ct1 : Value}
    {fcut_messages : Addr} {od2 an2 : Option Addr} {sl2 : Array (Option Value)} {oc2 kV2 dc2 pm2 cd2 ct2 : Value}
    {fis_message_size : Addr} {od3 an3 : Option Addr} {sl3 : Array (Option Value)} {oc3 kV3 dc3 pm3 cd3 ct3 : Value}
    {f_cut : Addr} {od4 an4 : Option Addr} {sl4 : Array (Option Value)} {oc4 kV4 dc4 pm4 cd4 ct4 : Value}
    {f_law_cell : Addr} {od5 an5 : Option Addr} {sl5 : Array (Option Value)} {oc5 kV5 dc5 pm5 cd5 ct5 : Value}
    {f_law_row : Addr} {od6 an6 : Option Addr} {sl6 : Array (Option Value)} {oc6 kV6 dc6 pm6 cd6 ct6 : Value}
    {f_law_message : Addr} {od7 an7 : Option Addr} {sl7 : Array (Option Value)} {oc7 kV7 dc7 pm7 cd7 ct7 : Value}
    {f_law_stream : Addr} {od8 an8 : Option Addr} {sl8 : Array (Option Value)} {oc8 kV8 dc8 pm8 cd8 ct8 : Value}
    {flaw : Addr} {od9 an9 : Option Addr} {sl9 : Array (Option Value)} {oc9 kV9 dc9 pm9 cd9 ct9 : Value}
    {fCutter___init__ : Addr} {od10 an10 : Option Addr} {sl10 : Array (Option Value)} {oc10 kV10 dc10 pm10 cd10 ct10 : Value}
    {fCutter_fault : Addr} {od11 an11 : Option Addr} {sl11 : Array (Option Value)} {oc11 kV11 dc11 pm11 cd11 ct11 : Value}
    {pCutter_fault : Addr} {rs11 : List Value}
    {fCutter_uncut : Addr} {od12 an12 : Option Addr} {sl12 : Array (Option Value)} {oc12 kV12 dc12 pm12 cd12 ct12 : Value}
    {pCutter_uncut : Addr} {rs12 : List Value}
    {fCutter_feed : Addr} {od13 an13 : Option Addr} {sl13 : Array (Option Value)} {oc13 kV13 dc13 pm13 cd13 ct13 : Value}
    {tHEADER_SIZE : Tok}
    {tGREATEST_SIZE : Tok}
    {CCutter : Addr}
    (a1 : PySem.W.nsIn K mainGlobals "number_at" = some (some (.ref fnumber_at)))
    (l1 : K.lookup fnumber_at = some ⟨oc1, od1, .func (PySem.W.fnOf "number_at" "number_at" (defArgs s_number_at) (defBody s_number_at) (defScope s_number_at) .none kV1 dc1 pm1 an1 cd1 ct1), sl1⟩) (c1 : PySem.W.codeIn K cd1 "number_at" = true) (k1 : PySem.W.keepIn K (.ref fnumber_at) = true)
    (a2 : PySem.W.nsIn K mainGlobals "cut_messages" = some (some (.ref fcut_messages)))
    (l2 : K.lookup fcut_messages = some ⟨oc2, od2, .func (PySem.W.fnOf "cut_messages" "cut_messages" (defArgs s_cut_messages) (defBody s_cut_messages) (defScope s_cut_messages) .none kV2 dc2 pm2 an2 cd2 ct2), sl2⟩) (c2 : PySem.W.codeIn K cd2 "cut_messages" = true) (k2 : PySem.W.keepIn K (.ref fcut_messages) = true)
    (a3 : PySem.W.nsIn K mainGlobals "is_message_size" = some (some (.ref fis_message_size)))
    (l3 : K.lookup fis_message_size = some ⟨oc3, od3, .func (PySem.W.fnOf "is_message_size" "is_message_size" (defArgs s_is_message_size) (defBody s_is_message_size) (defScope s_is_message_size) .none kV3 dc3 pm3 an3 cd3 ct3), sl3⟩) (c3 : PySem.W.codeIn K cd3 "is_message_size" = true) (k3 : PySem.W.keepIn K (.ref fis_message_size) = true)
    (a4 : PySem.W.nsIn K mainGlobals "_cut" = some (some (.ref f_cut)))
    (l4 : K.lookup f_cut = some ⟨oc4, od4, .func (PySem.W.fnOf "_cut" "_cut" (defArgs s__cut) (defBody s__cut) (defScope s__cut) .none kV4 dc4 pm4 an4 cd4 ct4), sl4⟩) (c4 : PySem.W.codeIn K cd4 "_cut" = true) (k4 : PySem.W.keepIn K (.ref f_cut) = true)
    (a5 : PySem.W.nsIn K mainGlobals "_law_cell" = some (some (.ref f_law_cell)))
    (l5 : K.lookup f_law_cell = some ⟨oc5, od5, .func (PySem.W.fnOf "_law_cell" "_law_cell" (defArgs s__law_cell) (defBody s__law_cell) (defScope s__law_cell) .none kV5 dc5 pm5 an5 cd5 ct5), sl5⟩) (c5 : PySem.W.codeIn K cd5 "_law_cell" = true) (k5 : PySem.W.keepIn K (.ref f_law_cell) = true)
    (a6 : PySem.W.nsIn K mainGlobals "_law_row" = some (some (.ref f_law_row)))
    (l6 : K.lookup f_law_row = some ⟨oc6, od6, .func (PySem.W.fnOf "_law_row" "_law_row" (defArgs s__law_row) (defBody s__law_row) (defScope s__law_row) .none kV6 dc6 pm6 an6 cd6 ct6), sl6⟩) (c6 : PySem.W.codeIn K cd6 "_law_row" = true) (k6 : PySem.W.keepIn K (.ref f_law_row) = true)
    (a7 : PySem.W.nsIn K mainGlobals "_law_message" = some (some (.ref f_law_message)))
    (l7 : K.lookup f_law_message = some ⟨oc7, od7, .func (PySem.W.fnOf "_law_message" "_law_message" (defArgs s__law_message) (defBody s__law_message) (defScope s__law_message) .none kV7 dc7 pm7 an7 cd7 ct7), sl7⟩) (c7 : PySem.W.codeIn K cd7 "_law_message" = true) (k7 : PySem.W.keepIn K (.ref f_law_message) = true)
    (a8 : PySem.W.nsIn K mainGlobals "_law_stream" = some (some (.ref f_law_stream)))
    (l8 : K.lookup f_law_stream = some ⟨oc8, od8, .func (PySem.W.fnOf "_law_stream" "_law_stream" (defArgs s__law_stream) (defBody s__law_stream) (defScope s__law_stream) .none kV8 dc8 pm8 an8 cd8 ct8), sl8⟩) (c8 : PySem.W.codeIn K cd8 "_law_stream" = true) (k8 : PySem.W.keepIn K (.ref f_law_stream) = true)
    (a9 : PySem.W.nsIn K mainGlobals "law" = some (some (.ref flaw)))
    (l9 : K.lookup flaw = some ⟨oc9, od9, .func (PySem.W.fnOf "law" "law" (defArgs s_law) (defBody s_law) (defScope s_law) .none kV9 dc9 pm9 an9 cd9 ct9), sl9⟩) (c9 : PySem.W.codeIn K cd9 "law" = true) (k9 : PySem.W.keepIn K (.ref flaw) = true)
    (a10 : PySem.W.findIn K (.ref CCutter) "__init__" = some (some (.ref fCutter___init__)))
    (i10 : PySem.W.isFn K (.ref fCutter___init__) = true)
    (l10 : K.lookup fCutter___init__ = some ⟨oc10, od10, .func (PySem.W.fnOf "__init__" "Cutter.__init__" (defArgs s_Cutter___init__) (defBody s_Cutter___init__) (defScope s_Cutter___init__) .none kV10 dc10 pm10 an10 cd10 ct10), sl10⟩) (c10 : PySem.W.codeIn K cd10 "Cutter.__init__" = true) (k10 : PySem.W.keepIn K (.ref fCutter___init__) = true)
    (a11 : PySem.W.findIn K (.ref CCutter) "fault" = some (some (.ref pCutter_fault))) (pg11 : PySem.W.specialIn K (.ref pCutter_fault) "__get__" = some (some (.builtin "property.__get__"))) (pt11 : PySem.W.takesIn K (.ref pCutter_fault) = some true) (pr11 : PySem.W.recIn K pCutter_fault "property" = some (.ref fCutter_fault :: rs11))
    (l11 : K.lookup fCutter_fault = some ⟨oc11, od11, .func (PySem.W.fnOf "fault" "Cutter.fault" (defArgs s_Cutter_fault) (defBody s_Cutter_fault) (defScope s_Cutter_fault) .none kV11 dc11 pm11 an11 cd11 ct11), sl11⟩) (c11 : PySem.W.codeIn K cd11 "Cutter.fault" = true) (k11 : PySem.W.keepIn K (.ref fCutter_fault) = true)
    (a12 : PySem.W.findIn K (.ref CCutter) "uncut" = some (some (.ref pCutter_uncut))) (pg12 : PySem.W.specialIn K (.ref pCutter_uncut) "__get__" = some (some (.builtin "property.__get__"))) (pt12 : PySem.W.takesIn K (.ref pCutter_uncut) = some true) (pr12 : PySem.W.recIn K pCutter_uncut "property" = some (.ref fCutter_uncut :: rs12))
    (l12 : K.lookup fCutter_uncut = some ⟨oc12, od12, .func (PySem.W.fnOf "uncut" "Cutter.uncut" (defArgs s_Cutter_uncut) (defBody s_Cutter_uncut) (defScope s_Cutter_uncut) .none kV12 dc12 pm12 an12 cd12 ct12), sl12⟩) (c12 : PySem.W.codeIn K cd12 "Cutter.uncut" = true) (k12 : PySem.W.keepIn K (.ref fCutter_uncut) = true)
    (a13 : PySem.W.findIn K (.ref CCutter) "feed" = some (some (.ref fCutter_feed)))
    (i13 : PySem.W.isFn K (.ref fCutter_feed) = true)
    (l13 : K.lookup fCutter_feed = some ⟨oc13, od13, .func (PySem.W.fnOf "feed" "Cutter.feed" (defArgs s_Cutter_feed) (defBody s_Cutter_feed) (defScope s_Cutter_feed) .none kV13 dc13 pm13 an13 cd13 ct13), sl13⟩) (c13 : PySem.W.codeIn K cd13 "Cutter.feed" = true) (k13 : PySem.W.keepIn K (.ref fCutter_feed) = true)
    (z_int : PySem.W.nsIn K mainGlobals "int" = some none)
    (z_len : PySem.W.nsIn K mainGlobals "len" = some none)
    (z_list : PySem.W.nsIn K mainGlobals "list" = some none)
    (z_min : PySem.W.nsIn K mainGlobals "min" = some none)
    (z_range : PySem.W.nsIn K mainGlobals "range" = some none)
    (z_sum : PySem.W.nsIn K mainGlobals "sum" = some none)
    (q_HEADER_SIZE : PySem.W.nsIn K mainGlobals "HEADER_SIZE" = some (some (.int (8) tHEADER_SIZE)))
    (q_GREATEST_SIZE : PySem.W.nsIn K mainGlobals "GREATEST_SIZE" = some (some (.int (20480) tGREATEST_SIZE)))
    (uCutter : PySem.W.nsIn K mainGlobals "Cutter" = some (some (.ref CCutter)))
    (pgCutter : PySem.W.plainGet K CCutter Str.empty = true) (hdCutter : PySem.W.hasDictIn K CCutter = true) (poCutter : PySem.W.plainOver K CCutter = true) (saCutter : PySem.W.findIn K (.ref CCutter) "__setattr__" = some (some (.builtin "object.__setattr__"))) (mkCutter : PySem.W.makesIn K CCutter = true) (kcCutter : PySem.W.keepIn K (.ref CCutter) = true)
    (nCutter__octets : PySem.W.findIn K (.ref CCutter) "_octets" = some none)
    (nCutter__fault : PySem.W.findIn K (.ref CCutter) "_fault" = some none)
    : ∃ A : Adr, A.flaw = fa ∧ Txt K mg A ∧ (∀ (s : Shared) (v : Value), BindsTo s A.dlaw ⟨[v], []⟩ [("script", v)]) := by
  have e := hfa.symm.trans (PySem.W.mg_of X G a9)
  cases e
  have F1 := fun_mk (st := s_number_at) l1 c1 k1
  have b1 := F1.binds (ps := ["octets", "at", "count"]) fun _ _ _ _ _ _ us hl => match us, hl with | [_, _, _], _ => rfl
  have F2 := fun_mk (st := s_cut_messages) l2 c2 k2
  have b2 := F2.binds (ps := ["octets"]) fun _ _ _ _ _ _ us hl => match us, hl with | [_], _ => rfl
  have F3 := fun_mk (st := s_is_message_size) l3 c3 k3
  have b3 := F3.binds (ps := ["size"]) fun _ _ _ _ _ _ us hl => match us, hl with | [_], _ => rfl
  have F4 := fun_mk (st := s__cut) l4 c4 k4
  have b4 := F4.binds (ps := ["octets"]) fun _ _ _ _ _ _ us hl => match us, hl with | [_], _ => rfl
  have F5 := fun_mk (st := s__law_cell) l5 c5 k5
  have b5 := F5.binds (ps := ["script", "k"]) fun _ _ _ _ _ _ us hl => match us, hl with | [_, _], _ => rfl
  have F6 := fun_mk (st := s__law_row) l6 c6 k6
  have b6 := F6.binds (ps := ["script", "k"]) fun _ _ _ _ _ _ us hl => match us, hl with | [_, _], _ => rfl
  have F7 := fun_mk (st := s__law_message) l7 c7 k7
  have b7 := F7.binds (ps := ["row"]) fun _ _ _ _ _ _ us hl => match us, hl with | [_], _ => rfl
  have F8 := fun_mk (st := s__law_stream) l8 c8 k8
  have b8 := F8.binds (ps := ["script", "count"]) fun _ _ _ _ _ _ us hl => match us, hl with | [_, _], _ => rfl
  have F9 := fun_mk (st := s_law) l9 c9 k9
  have b9 := F9.binds (ps := ["script"]) fun _ _ _ _ _ _ us hl => match us, hl with | [_], _ => rfl
  have F10 := fun_mk (st := s_Cutter___init__) l10 c10 k10
  have b10 := F10.binds (ps := ["self"]) fun _ _ _ _ _ _ us hl => match us, hl with | [_], _ => rfl
  have F11 := fun_mk (st := s_Cutter_fault) l11 c11 k11
  have b11 := F11.binds (ps := ["self"]) fun _ _ _ _ _ _ us hl => match us, hl with | [_], _ => rfl
  have F12 := fun_mk (st := s_Cutter_uncut) l12 c12 k12
  have b12 := F12.binds (ps := ["self"]) fun _ _ _ _ _ _ us hl => match us, hl with | [_], _ => rfl
  have F13 := fun_mk (st := s_Cutter_feed) l13 c13 k13
  have b13 := F13.binds (ps := ["self", "octets"]) fun _ _ _ _ _ _ us hl => match us, hl with | [_, _], _ => rfl
  refine ⟨{ fnumber_at := fnumber_at, dnumber_at := (PySem.W.fnOf "number_at" "number_at" (defArgs s_number_at) (defBody s_number_at) (defScope s_number_at) .none kV1 dc1 pm1 an1 cd1 ct1), fcut_messages := fcut_messages, dcut_messages := (PySem.W.fnOf "cut_messages" "cut_messages" (defArgs s_cut_messages) (defBody s_cut_messages) (defScope s_cut_messages) .none kV2 dc2 pm2 an2 cd2 ct2), fis_message_size := fis_message_size, dis_message_size := (PySem.W.fnOf "is_message_size" "is_message_size" (defArgs s_is_message_size) (defBody s_is_message_size) (defScope s_is_message_size) .none kV3 dc3 pm3 an3 cd3 ct3), f_cut := f_cut, d_cut := (PySem.W.fnOf "_cut" "_cut" (defArgs s__cut) (defBody s__cut) (defScope s__cut) .none kV4 dc4 pm4 an4 cd4 ct4), f_law_cell := f_law_cell, d_law_cell := (PySem.W.fnOf "_law_cell" "_law_cell" (defArgs s__law_cell) (defBody s__law_cell) (defScope s__law_cell) .none kV5 dc5 pm5 an5 cd5 ct5), f_law_row := f_law_row, d_law_row := (PySem.W.fnOf "_law_row" "_law_row" (defArgs s__law_row) (defBody s__law_row) (defScope s__law_row) .none kV6 dc6 pm6 an6 cd6 ct6), f_law_message := f_law_message, d_law_message := (PySem.W.fnOf "_law_message" "_law_message" (defArgs s__law_message) (defBody s__law_message) (defScope s__law_message) .none kV7 dc7 pm7 an7 cd7 ct7), f_law_stream := f_law_stream, d_law_stream := (PySem.W.fnOf "_law_stream" "_law_stream" (defArgs s__law_stream) (defBody s__law_stream) (defScope s__law_stream) .none kV8 dc8 pm8 an8 cd8 ct8), flaw := fa, dlaw := (PySem.W.fnOf "law" "law" (defArgs s_law) (defBody s_law) (defScope s_law) .none kV9 dc9 pm9 an9 cd9 ct9), fCutter___init__ := fCutter___init__, dCutter___init__ := (PySem.W.fnOf "__init__" "Cutter.__init__" (defArgs s_Cutter___init__) (defBody s_Cutter___init__) (defScope s_Cutter___init__) .none kV10 dc10 pm10 an10 cd10 ct10), fCutter_fault := fCutter_fault, dCutter_fault := (PySem.W.fnOf "fault" "Cutter.fault" (defArgs s_Cutter_fault) (defBody s_Cutter_fault) (defScope s_Cutter_fault) .none kV11 dc11 pm11 an11 cd11 ct11), pCutter_fault := pCutter_fault, fCutter_uncut := fCutter_uncut, dCutter_uncut := (PySem.W.fnOf "uncut" "Cutter.uncut" (defArgs s_Cutter_uncut) (defBody s_Cutter_uncut) (defScope s_Cutter_uncut) .none kV12 dc12 pm12 an12 cd12 ct12), pCutter_uncut := pCutter_uncut, fCutter_feed := fCutter_feed, dCutter_feed := (PySem.W.fnOf "feed" "Cutter.feed" (defArgs s_Cutter_feed) (defBody s_Cutter_feed) (defScope s_Cutter_feed) .none kV13 dc13 pm13 an13 cd13 ct13), tHEADER_SIZE := tHEADER_SIZE, tGREATEST_SIZE := tGREATEST_SIZE, CCutter := CCutter }, rfl, { Fnumber_at := F1, bnumber_at := b1, gnumber_at := PySem.W.mg_of X G a1, knumber_at := k1, Fcut_messages := F2, bcut_messages := b2, gcut_messages := PySem.W.mg_of X G a2, kcut_messages := k2, Fis_message_size := F3, bis_message_size := b3, gis_message_size := PySem.W.mg_of X G a3, kis_message_size := k3, F_cut := F4, b_cut := b4, g_cut := PySem.W.mg_of X G a4, k_cut := k4, F_law_cell := F5, b_law_cell := b5, g_law_cell := PySem.W.mg_of X G a5, k_law_cell := k5, F_law_row := F6, b_law_row := b6, g_law_row := PySem.W.mg_of X G a6, k_law_row := k6, F_law_message := F7, b_law_message := b7, g_law_message := PySem.W.mg_of X G a7, k_law_message := k7, F_law_stream := F8, b_law_stream := b8, g_law_stream := PySem.W.mg_of X G a8, k_law_stream := k8, Flaw := F9, blaw := b9, glaw := PySem.W.mg_of X G a9, klaw := k9, FCutter___init__ := F10, bCutter___init__ := b10, MCutter := ⟨mkCutter, a10, i10, kcCutter⟩, FCutter_fault := F11, bCutter_fault := b11, pCutter_fault := ⟨a11, pg11, pt11, _, pr11⟩, FCutter_uncut := F12, bCutter_uncut := b12, pCutter_uncut := ⟨a12, pg12, pt12, _, pr12⟩, FCutter_feed := F13, bCutter_feed := b13, mCutter_feed := ⟨a13, i13, k13⟩, int := PySem.W.mg_none_of X G z_int, len := PySem.W.mg_none_of X G z_len, list := PySem.W.mg_none_of X G z_list, min := PySem.W.mg_none_of X G z_min, range := PySem.W.mg_none_of X G z_range, sum := PySem.W.mg_none_of X G z_sum, gHEADER_SIZE := PySem.W.mg_of X G q_HEADER_SIZE, gGREATEST_SIZE := PySem.W.mg_of X G q_GREATEST_SIZE, clCutter := ⟨pgCutter, hdCutter, poCutter, saCutter⟩, gCutter := PySem.W.mg_of X G uCutter, nCutter__octets := nCutter__octets, nCutter__fault := nCutter__fault }, fun s v => .of_eq rfl⟩
theorem walk {l : PySem.W.OpenLaw} {q : Program} {loose : List Str} {XP : (Str → Option Value) → Heap → Prop} {YP : World → Heap → Prop} {d : DefRec} {K : Params → PySem.W.Frag} (hn : l.most = some 63) (hdf : d.params.defaults = [])
    (hY : ∀ (w : World) (h : Heap), YP w h → (K w.params).In h)
    (F : ∀ (w : World) (mg : Str → Option Value) (fa : Addr) (h : Heap), (K w.params).In h → h.Ns mainGlobals mg → mg d.name = some (.ref fa) →
      ∃ A : Adr, A.flaw = fa ∧ Txt (K w.params) mg A ∧ (∀ (s : Shared) (v : Value), BindsTo s A.dlaw ⟨[v], []⟩ [("script", v)])) :
    PySem.W.WalkO q loose XP YP l.row.toRowW d [] (fun f vs => PySem.call f vs) :=
  L2.walk_of (n := 63) (k := 4) (x := "script") (CX := fun _ => CX0) (sp := fun w => sp_law (K w.params)) hn (by decide) hdf ⟨rfl, by decide, by decide⟩ hY (fun w mg fa h X G hfa => by
    obtain ⟨A, rfl, T, b⟩ := F w mg fa h X G hfa
    exact ⟨A.dlaw, b, fun base _ _ => ok_law T⟩) (fun _ _ a ns hl _ hS => ⟨a, ns, rfl, hS, hl, fun _ => rfl⟩) fun _ _ _ _ _ z => z
end My
open PySem PySem.W PyProof.Rows
set_option maxRecDepth 100000 in
set_option maxHeartbeats 0 in
theorem PySem.Challenge.cw_sillwatch_k08_cutter_in_portions_holds : PySem.Challenge.rw_sillwatch_k08_cutter_in_portions.Holds := by
  w_on; o_law; k_head; (case hw => w_witness2)
  k_fill
  refine My.walk (l := PySem.Challenge.rw_sillwatch_k08_cutter_in_portions) rfl rfl (fun w h Y => PySem.W.kIn_of Y) ?F
  case F =>
    intro w mg fa h KX G hmg
    refine' My.all_mk KX G hmg ?a1 ?l1 ?c1 ?k1 ?a2 ?l2 ?c2 ?k2 ?a3 ?l3 ?c3 ?k3 ?a4 ?l4 ?c4 ?k4 ?a5 ?l5 ?c5 ?k5 ?a6 ?l6 ?c6 ?k6 ?a7 ?l7 ?c7 ?k7 ?a8 ?l8 ?c8 ?k8 ?a9 ?l9 ?c9 ?k9 ?a10 ?i10 ?l10 ?c10 ?k10 ?a11 ?pg11 ?pt11 ?pr11 ?l11 ?c11 ?k11 ?a12 ?pg12 ?pt12 ?pr12 ?l12 ?c12 ?k12 ?a13 ?i13 ?l13 ?c13 ?k13 ?z_int ?z_len ?z_list ?z_min ?z_range ?z_sum ?q_HEADER_SIZE ?q_GREATEST_SIZE ?uCutter ?pgCutter ?hdCutter ?poCutter ?saCutter ?mkCutter ?kcCutter ?nCutter__octets ?nCutter__fault
    (case uCutter => k_is)
    (case a1 => k_is)
    (case l1 => k_is)
    (case c1 => k_is)
    (case k1 => k_is)
    (case a2 => k_is)
    (case l2 => k_is)
    (case c2 => k_is)
    (case k2 => k_is)
    (case a3 => k_is)
    (case l3 => k_is)
    (case c3 => k_is)
    (case k3 => k_is)
    (case a4 => k_is)
    (case l4 => k_is)
    (case c4 => k_is)
    (case k4 => k_is)
    (case a5 => k_is)
    (case l5 => k_is)
    (case c5 => k_is)
    (case k5 => k_is)
    (case a6 => k_is)
    (case l6 => k_is)
    (case c6 => k_is)
    (case k6 => k_is)
    (case a7 => k_is)
    (case l7 => k_is)
    (case c7 => k_is)
    (case k7 => k_is)
    (case a8 => k_is)
    (case l8 => k_is)
    (case c8 => k_is)
    (case k8 => k_is)
    (case a9 => k_is)
    (case l9 => k_is)
    (case c9 => k_is)
    (case k9 => k_is)
    (case a10 => k_is)
    (case i10 => k_is)
    (case l10 => k_is)
    (case c10 => k_is)
    (case k10 => k_is)
    (case a11 => k_is)
    (case pg11 => k_is)
    (case pt11 => k_is)
    (case pr11 => k_is)
    (case l11 => k_is)
    (case c11 => k_is)
    (case k11 => k_is)
    (case a12 => k_is)
    (case pg12 => k_is)
    (case pt12 => k_is)
    (case pr12 => k_is)
    (case l12 => k_is)
    (case c12 => k_is)
    (case k12 => k_is)
    (case a13 => k_is)
    (case i13 => k_is)
    (case l13 => k_is)
    (case c13 => k_is)
    (case k13 => k_is)
    (case z_int => k_is)
    (case z_len => k_is)
    (case z_list => k_is)
    (case z_min => k_is)
    (case z_range => k_is)
    (case z_sum => k_is)
    (case q_HEADER_SIZE => k_is)
    (case q_GREATEST_SIZE => k_is)
    (case pgCutter => k_is)
    (case hdCutter => k_is)
    (case poCutter => k_is)
    (case saCutter => k_is)
    (case mkCutter => k_is)
    (case kcCutter => k_is)
    (case nCutter__octets => k_is)
    (case nCutter__fault => k_is)
