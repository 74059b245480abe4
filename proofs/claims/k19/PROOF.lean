import PyProof.Rows.All
import Wide.All
import OpenK.AllK
import Wide.FinOn
import HandS.ForMost
import HandS.Exc
import HandS.TryOnly
import HandS.ExcOwn
import HandS.WordsExc
import HandS.IsInst
import HandS.Wide
import HandS.Flow
import HandS.More
import HandS.Codes
import HandS.Walk
import HandS.TupLe
import HandS.WordsDict
import HandS.Conv
import HandS.TryMany
import HandS.ExcIs
import KE.KBits
import HandS.CallLocal
import HandS.Strs
import HandS.SetFor
import HandS.Set
import HandS.Property
import PySem.Challenge.RW_sillwatch_k19_rectangle_region
set_option Elab.async false
set_option linter.all false
set_option maxRecDepth 100000
set_option maxHeartbeats 4000000
namespace My
open PySem L2
def topS (i : Nat) : Stmt := PySem.Challenge.pw_sillwatch_k19_rectangle_region.main.body.getD i (.Pass ⟨0, 0, 0, 0⟩)
abbrev s_rectangle_region : Stmt := topS 1
abbrev s_rectangles : Stmt := topS 2
abbrev s_has_square : Stmt := topS 3
abbrev s__law_cell : Stmt := topS 5
abbrev s__law_row : Stmt := topS 6
abbrev s_law : Stmt := topS 7
structure Adr where
  frectangle_region : Addr
  drectangle_region : FuncData
  frectangles : Addr
  drectangles : FuncData
  fhas_square : Addr
  dhas_square : FuncData
  f_law_cell : Addr
  d_law_cell : FuncData
  f_law_row : Addr
  d_law_row : FuncData
  flaw : Addr
  dlaw : FuncData
structure Txt (K : PySem.W.Frag) (mg : Str → Option Value) (A : Adr) : Prop where
  Frectangle_region : Fun K "rectangle_region" "rectangle_region" s_rectangle_region A.frectangle_region A.drectangle_region
  brectangle_region : Binds K A.drectangle_region ["x", "y", "width", "height"] []
  grectangle_region : mg "rectangle_region" = some (.ref A.frectangle_region)
  krectangle_region : PySem.W.keepIn K (.ref A.frectangle_region) = true
  Frectangles : Fun K "rectangles" "rectangles" s_rectangles A.frectangles A.drectangles
  brectangles : Binds K A.drectangles ["region"] []
  grectangles : mg "rectangles" = some (.ref A.frectangles)
  krectangles : PySem.W.keepIn K (.ref A.frectangles) = true
  Fhas_square : Fun K "has_square" "has_square" s_has_square A.fhas_square A.dhas_square
  bhas_square : Binds K A.dhas_square ["region", "x", "y"] []
  ghas_square : mg "has_square" = some (.ref A.fhas_square)
  khas_square : PySem.W.keepIn K (.ref A.fhas_square) = true
  F_law_cell : Fun K "_law_cell" "_law_cell" s__law_cell A.f_law_cell A.d_law_cell
  b_law_cell : Binds K A.d_law_cell ["script", "k"] []
  g_law_cell : mg "_law_cell" = some (.ref A.f_law_cell)
  k_law_cell : PySem.W.keepIn K (.ref A.f_law_cell) = true
  F_law_row : Fun K "_law_row" "_law_row" s__law_row A.f_law_row A.d_law_row
  b_law_row : Binds K A.d_law_row ["script", "k"] []
  g_law_row : mg "_law_row" = some (.ref A.f_law_row)
  k_law_row : PySem.W.keepIn K (.ref A.f_law_row) = true
  Flaw : Fun K "law" "law" s_law A.flaw A.dlaw
  blaw : Binds K A.dlaw ["script"] []
  glaw : mg "law" = some (.ref A.flaw)
  klaw : PySem.W.keepIn K (.ref A.flaw) = true
  any : mg "any" = none
  int : mg "int" = none
  len : mg "len" = none
section
variable {P : Program} {w : World} {K : PySem.W.Frag} {mg : Str → Option Value} {base : Heap} {A : Adr}
/-! ### common: tests, errors, small words -/
theorem exm_self {K : PySem.W.Frag} {S : Addr} (h1 : PySem.W.subIn K (.ref S) (.type "BaseException") = some true) (h2 : PySem.W.isClsIn K S = true) (h3 : PySem.W.typeIn K (.ref S) = some (.type "type")) (h4 : PySem.W.subIn K (.ref S) (.ref S) = some true) :
    PySem.W.exmOne K (.ref S) (.ref S) = some true := by
  have g1 : (PySem.W.subIn K (.ref S) (.type "BaseException") == some true) = true := by rw [h1]; rfl
  have g0 : (PySem.W.clsIn K S).isSome = true := h2
  have g2 : ((PySem.W.clsIn K S).isSome && PySem.W.typeIn K (.ref S) == some (.type "type")) = true := by rw [g0, h3]; rfl
  show (if (PySem.W.subIn K (.ref S) (.type "BaseException") == some true) = true then (if ((PySem.W.clsIn K S).isSome && PySem.W.typeIn K (.ref S) == some (.type "type")) = true then PySem.W.subIn K (.ref S) (.ref S) else none) else none) = some true
  rw [if_pos g1, if_pos g2]
  exact h4
theorem exm_cross {K : PySem.W.Frag} {S R : Addr} {b : Bool} (h1 : PySem.W.subIn K (.ref S) (.type "BaseException") = some true) (h2 : PySem.W.isClsIn K S = true) (h3 : PySem.W.typeIn K (.ref S) = some (.type "type")) (h4 : PySem.W.subIn K (.ref R) (.ref S) = some b) :
    PySem.W.exmOne K (.ref R) (.ref S) = some b := by
  have g1 : (PySem.W.subIn K (.ref S) (.type "BaseException") == some true) = true := by rw [h1]; rfl
  have g0 : (PySem.W.clsIn K S).isSome = true := h2
  have g2 : ((PySem.W.clsIn K S).isSome && PySem.W.typeIn K (.ref S) == some (.type "type")) = true := by rw [g0, h3]; rfl
  show (if (PySem.W.subIn K (.ref S) (.type "BaseException") == some true) = true then (if ((PySem.W.clsIn K S).isSome && PySem.W.typeIn K (.ref S) == some (.type "type")) = true then PySem.W.subIn K (.ref R) (.ref S) else none) else none) = some b
  rw [if_pos g1, if_pos g2]
  exact h4
/-- the law's own promise -/
def sp_law (K : PySem.W.Frag) : Sp := fun vs H Q _ => ∃ (a : Addr) (ns : List Int), vs = [.ref a] ∧ SqL K H a (ns.map V.int) ∧ ns.length ≤ 63 ∧ ∀ H', Q (.bl true) H'
theorem iteP {p A B : Prop} [Decidable p] (h1 : p → A) (h2 : ¬ p → B) : if decide p = true then A else B := by
  by_cases h : p
  · rw [decide_eq_true h]; exact iteT (h1 h)
  · rw [decide_eq_false h]; exact iteF (h2 h)
theorem iteN {p A B : Prop} [Decidable p] (h1 : ¬ p → A) (h2 : p → B) : if (!decide p) = true then A else B := by
  by_cases h : p
  · rw [decide_eq_true h]; exact iteF (h2 h)
  · rw [decide_eq_false h]; exact iteT (h1 h)
theorem iteEq {i j : Int} {A B : Prop} (h1 : i = j → A) (h2 : i ≠ j → B) : if decide (V.int i = V.int j) = true then A else B :=
  iteP (fun h => h1 (V.int.inj h)) (fun h => h2 fun e => h (congrArg V.int e))
theorem iteNe {i j : Int} {A B : Prop} (h1 : i ≠ j → A) (h2 : i = j → B) : if (!decide (V.int i = V.int j)) = true then A else B :=
  iteN (fun h => h1 fun e => h (congrArg V.int e)) (fun h => h2 (V.int.inj h))
theorem if_t {b : Bool} {A B : Prop} (e : b = true) (h : A) : if b = true then A else B := by rw [if_pos e]; exact h
theorem if_f {b : Bool} {A B : Prop} (e : b = false) (h : B) : if b = true then A else B := by rw [e]; exact iteF h
theorem if_b {b : Bool} {A B : Prop} (h1 : b = true → A) (h2 : b = false → B) : if b = true then A else B := by
  cases b with
  | true => exact iteT (h1 rfl)
  | false => exact iteF (h2 rfl)
theorem same_upd {H : Hp} {p : Addr} {o : HO} (h : H p = none) : Same H (upd H p o) := fun b x e => by
  rw [upd_ne (ne_of_none e h)]
  exact e
theorem len_line {n : Nat} (h : n ≤ 100000) : n ≤ sizeLine := Nat.le_trans h (by decide)
theorem lt_line {n : Nat} (h : n < 100000) : n < sizeLine := Nat.lt_of_lt_of_le h (by decide)
local macro_rules | `(tactic| walk_at "rd") => `(tactic| repeat (first
  | refine ⟨_, rfl, ?_⟩
  | refine ⟨_, _, rfl, rfl, ?_⟩
  | refine ⟨rfl, ?_⟩
  | refine Or.inl ⟨_, rfl, ?_⟩
  | refine ⟨(by show (0 : Int) < _; decide), ?_⟩
  | refine ⟨(⟨by decide, by decide⟩ : CDiv _ _), ?_⟩
  | refine ⟨(Or.inl ⟨by decide, by decide⟩ : CMul _ _), ?_⟩
  | refine ⟨(Or.inr ⟨by decide, by decide⟩ : CMul _ _), ?_⟩))
/-! ### data that are compared -/
def Sh (n : Nat) (d : PyData) : Prop := d.canLay0 = true ∧ d.depth ≤ n
theorem Sh.mono {n m : Nat} {d : PyData} (h : Sh n d) (l : n ≤ m) : Sh m d := ⟨h.1, Nat.le_trans h.2 l⟩
theorem sh_all : ∀ {n : Nat} {ds : List PyData}, (∀ d ∈ ds, Sh n d) → PyData.canLayAll0 ds = true ∧ PyData.depthAll ds ≤ n
  | n, [], _ => ⟨by simp [PyData.canLayAll0], by simp [PyData.depthAll]⟩
  | n, d :: ds, h => by
    have h1 := h d List.mem_cons_self
    have h2 := sh_all fun e he => h e (List.mem_cons_of_mem _ he)
    refine ⟨?_, ?_⟩
    · simp only [PyData.canLayAll0, Bool.and_eq_true]; exact ⟨h1.1, h2.1⟩
    · simp only [PyData.depthAll]; exact Nat.max_le.mpr ⟨h1.2, h2.2⟩
theorem sh_list {n : Nat} {ds : List PyData} (h : ∀ d ∈ ds, Sh n d) : Sh (n + 1) (.list ds) := by
  have q := sh_all h
  exact ⟨by simp only [PyData.canLay0]; exact q.1, by simp only [PyData.depth]; exact Nat.succ_le_succ q.2⟩
theorem sh_tuple {n : Nat} {ds : List PyData} (h : ∀ d ∈ ds, Sh n d) : Sh (n + 1) (.tuple ds) := by
  have q := sh_all h
  exact ⟨by simp only [PyData.canLay0]; exact q.1, by simp only [PyData.depth]; exact Nat.succ_le_succ q.2⟩
theorem sh_int (i : Int) : Sh 0 (.int i) := ⟨by simp [PyData.canLay0], by simp [PyData.depth]⟩
theorem sh_bool (i : Bool) : Sh 0 (.bool i) := ⟨by simp [PyData.canLay0], by simp [PyData.depth]⟩
theorem sh_none : Sh 0 .none := ⟨by simp [PyData.canLay0], by simp [PyData.depth]⟩
theorem sh_str {s : Str} (h : PyData.strOk s = true) : Sh 0 (.str s) := ⟨by simp only [PyData.canLay0]; exact h, by simp [PyData.depth]⟩
theorem Sh.shaped {n : Nat} {d : PyData} (h : Sh n d) (l : n ≤ 64 := by decide) : SeqAt.shaped d = true := by
  show (d.canLay0 && decide (d.depth ≤ 64)) = true
  rw [h.1, decide_eq_true (Nat.le_trans h.2 l)]
  rfl
theorem Sh.self {n : Nat} {d : PyData} (h : Sh n d) : PyData.eqv d d = true := SeqAt.eqv_refl d h.1
def pInts (xs : List Int) : PyData := .list (xs.map PyData.int)
theorem sh_ints (xs : List Int) : Sh 1 (pInts xs) := sh_list fun d hd => by
  obtain ⟨i, _, rfl⟩ := List.mem_map.mp hd
  exact sh_int i
theorem dpall_ints {K : PySem.W.Frag} {H : Hp} : ∀ xs : List Int, DpAll K H (xs.map V.int) (xs.map PyData.int)
  | [] => .nil
  | x :: r => .cons (.int x) (dpall_ints r)
theorem dp_ints {K : PySem.W.Frag} {H : Hp} {p : Addr} {xs : List Int} (h : SqL K H p (xs.map V.int)) : Dp K H (.ref p) (pInts xs) := .lst h (dpall_ints xs)
/-! ### views: what is new, what stands -/
structure Ext (V H V' H' : Hp) : Prop where
  vv : Same V V'
  vh : Same V' H'
  hh : Same H H'
  nw : ∀ a, V' a ≠ none → V a ≠ none ∨ H a = none
theorem Ext.refl {V H : Hp} (h : Same V H) : Ext V H V H := ⟨Same.refl V, h, Same.refl H, fun _ h => Or.inl h⟩
theorem Ext.trans {V H V1 H1 V2 H2 : Hp} (a : Ext V H V1 H1) (b : Ext V1 H1 V2 H2) : Ext V H V2 H2 :=
  ⟨a.vv.trans b.vv, b.vh, a.hh.trans b.hh, fun x h => by
    rcases b.nw x h with q | q
    · exact a.nw x q
    · exact Or.inr (a.hh.free q)⟩
theorem none_of_same {V H : Hp} {p : Addr} (s : Same V H) (h : H p = none) : V p = none := s.free h
theorem Ext.new {V H : Hp} {p : Addr} {o : HO} (s : Same V H) (h : H p = none) : Ext V H (upd V p o) (upd H p o) :=
  ⟨same_upd (s.free h), fun b u e => by
    by_cases hb : b = p
    · subst hb; rw [upd_same] at e ⊢; exact e
    · rw [upd_ne hb] at e ⊢; exact s b u e, same_upd h, fun a e => by
    by_cases ha : a = p
    · subst ha; exact Or.inr h
    · rw [upd_ne ha] at e; exact Or.inl e⟩
/-- a new object that the view does not take in -/
theorem Ext.skip {V H : Hp} {p : Addr} {o : HO} (s : Same V H) (h : H p = none) : Ext V H V (upd H p o) :=
  ⟨Same.refl V, s.trans (same_upd h), same_upd h, fun _ e => Or.inl e⟩
theorem Ext.keepOut {V H V' H' : Hp} (x : Ext V H V' H') {D : Addr} (h : V D = none) (hd : H D ≠ none) : V' D = none := by
  cases e : V' D with
  | none => rfl
  | some o =>
    rcases x.nw D (by rw [e]; exact fun z => by cases z) with q | q
    · exact absurd h q
    · exact absurd q hd
/-- an object outside of the view changes -/
theorem Ext.poke {V H V' H' : Hp} (x : Ext V H V' H') {D : Addr} {o : HO} (hd : H D = none) (h : V' D = none) : Ext V H V' (upd H' D o) :=
  ⟨x.vv, fun b u e => by
    have hb : b ≠ D := fun z => by rw [z, h] at e; cases e
    rw [upd_ne hb]; exact x.vh b u e, fun b u e => by
    have hb : b ≠ D := ne_of_none e hd
    rw [upd_ne hb]; exact x.hh b u e, x.nw⟩
/-- the object at D, done, is taken in -/
theorem Ext.take {V H V' H' : Hp} (x : Ext V H V' H') {D : Addr} {o : HO} (hd : H D = none) (h : V' D = none) (e : H' D = some o) : Ext V H (upd V' D o) H' :=
  ⟨x.vv.trans (same_upd h), fun b u q => by
    by_cases hb : b = D
    · subst hb; rw [upd_same] at q; rw [e]; exact q
    · rw [upd_ne hb] at q; exact x.vh b u q, x.hh, fun a q => by
    by_cases ha : a = D
    · subst ha; exact Or.inr hd
    · rw [upd_ne ha] at q; exact x.nw a q⟩
theorem _root_.L2.Same.sqt {K : PySem.W.Frag} {H H' : Hp} {a : Addr} {xs : List V} (e : Same H H') (h : SqT K H a xs) : SqT K H' a xs := by
  rcases h with (h | ⟨o, h⟩) | h
  · exact .inl (.inl (e _ _ h))
  · exact .inl (.inr ⟨o, e _ _ h⟩)
  · exact .inr h
mutual
theorem dp_same {K : PySem.W.Frag} {H H' : Hp} (s : Same H H') : ∀ (d : PyData) (v : V), Dp K H v d → Dp K H' v d
  | .none, _, h => by cases h; exact .non
  | .bool b, _, h => by cases h; exact .bl b
  | .int i, _, h => by cases h; exact .int i
  | .str x, _, h => by cases h; exact .str x
  | .list ds, _, h => by
    cases h with
    | lst q r => exact .lst (s.seq q) (dpall_same s ds _ r)
  | .tuple ds, _, h => by
    cases h with
    | tup q r => exact .tup (s.sqt q) (dpall_same s ds _ r)
  | .dict _, _, h => by cases h
theorem dpall_same {K : PySem.W.Frag} {H H' : Hp} (s : Same H H') : ∀ (ds : List PyData) (vs : List V), DpAll K H vs ds → DpAll K H' vs ds
  | [], _, h => by cases h; exact .nil
  | d :: ds, _, h => by
    cases h with
    | cons q r => exact .cons (dp_same s d _ q) (dpall_same s ds _ r)
end
theorem _root_.L2.Dp.to {K : PySem.W.Frag} {H H' : Hp} {v : V} {d : PyData} (h : Dp K H v d) (s : Same H H') : Dp K H' v d := dp_same s d v h
theorem _root_.L2.DpAll.to {K : PySem.W.Frag} {H H' : Hp} {v : List V} {d : List PyData} (h : DpAll K H v d) (s : Same H H') : DpAll K H' v d := dpall_same s d v h
theorem dpall_len {K : PySem.W.Frag} {H : Hp} : ∀ {vs : List V} {ds : List PyData}, DpAll K H vs ds → vs.length = ds.length
  | _, [], h => by cases h; rfl
  | _, d :: ds, h => by
    cases h with
    | cons q r => exact congrArg (· + 1) (dpall_len r)
theorem dpall_get {K : PySem.W.Frag} {H : Hp} : ∀ {vs : List V} {ds : List PyData} {i : Nat} {v : V}, DpAll K H vs ds → vs[i]? = some v → ∃ d, ds[i]? = some d ∧ Dp K H v d
  | _, [], i, v, h, e => by cases h; cases e
  | _, d :: ds, i, v, h, e => by
    cases h with
    | cons q r =>
      match i, e with
      | 0, e => cases e; exact ⟨d, rfl, q⟩
      | i + 1, e => exact dpall_get (i := i) r e
theorem dpall_get' {K : PySem.W.Frag} {H : Hp} : ∀ {vs : List V} {ds : List PyData} {i : Nat} {d : PyData}, DpAll K H vs ds → ds[i]? = some d → ∃ v, vs[i]? = some v ∧ Dp K H v d
  | _, [], i, d, h, e => by cases e
  | _, d :: ds, i, d', h, e => by
    cases h with
    | cons q r =>
      match i, e with
      | 0, e => cases e; exact ⟨_, rfl, q⟩
      | i + 1, e => exact dpall_get' (i := i) r e
theorem dpall_app {K : PySem.W.Frag} {H : Hp} : ∀ {vs ws : List V} {ds es : List PyData}, DpAll K H vs ds → DpAll K H ws es → DpAll K H (vs ++ ws) (ds ++ es)
  | _, _, [], _, h, g => by cases h; exact g
  | _, _, d :: ds, _, h, g => by
    cases h with
    | cons q r => exact .cons q (dpall_app r g)
theorem dp_list {K : PySem.W.Frag} {H : Hp} {v : V} {ds : List PyData} (h : Dp K H v (.list ds)) : ∃ a xs, v = .ref a ∧ SqL K H a xs ∧ DpAll K H xs ds := by
  cases h with
  | lst q r => exact ⟨_, _, rfl, q, r⟩
theorem dp_tuple {K : PySem.W.Frag} {H : Hp} {v : V} {ds : List PyData} (h : Dp K H v (.tuple ds)) : ∃ a xs, v = .ref a ∧ SqT K H a xs ∧ DpAll K H xs ds := by
  cases h with
  | tup q r => exact ⟨_, _, rfl, q, r⟩
theorem dp_int {K : PySem.W.Frag} {H : Hp} {v : V} {i : Int} (h : Dp K H v (.int i)) : v = .int i := by cases h; rfl
theorem dp_str {K : PySem.W.Frag} {H : Hp} {v : V} {i : Str} (h : Dp K H v (.str i)) : v = .str i := by cases h; rfl
theorem dp_bool {K : PySem.W.Frag} {H : Hp} {v : V} {i : Bool} (h : Dp K H v (.bool i)) : v = .bl i := by cases h; rfl
/-! ### comprehensions over any walk -/
def fm {α : Type} (f : Nat → Option α) (n : Nat) : List α := (List.range n).filterMap f
theorem fm_succ {α : Type} (f : Nat → Option α) (n : Nat) : fm f (n + 1) = fm f n ++ (f n).toList := by
  unfold fm
  rw [List.range_succ, List.filterMap_append]
  congr 1
theorem fm_len {α : Type} (f : Nat → Option α) (n : Nat) : (fm f n).length ≤ n := by
  have h := List.length_filterMap_le f (List.range n)
  rw [List.length_range] at h
  exact h
structure LcInv (K : PySem.W.Frag) (V0 H0 : Hp) (D : Addr) (acc : List PyData) (H : Hp) : Prop where
  ex : ∃ V xs, Ext V0 H0 V H ∧ V D = none ∧ H D = some (.lst xs) ∧ DpAll K V xs acc
theorem LcInv.start {K : PySem.W.Frag} {V0 H0 : Hp} {D : Addr} (s : Same V0 H0) (hD : H0 D = none) : LcInv K V0 H0 D [] (upd H0 D (.lst [])) :=
  ⟨V0, [], Ext.skip s hD, s.free hD, upd_same, .nil⟩
theorem LcInv.done {K : PySem.W.Frag} {V0 H0 H : Hp} {D : Addr} {acc : List PyData} (hD : H0 D = none) (i : LcInv K V0 H0 D acc H) : ∃ U xs, Ext V0 H0 U H ∧ U D = some (.lst xs) ∧ DpAll K U xs acc ∧ Dp K U (.ref D) (.list acc) := by
  obtain ⟨V, xs, x, hv, hd, dp⟩ := i.ex
  exact ⟨_, xs, x.take hD hv hd, upd_same, dp.to (same_upd hv), .lst (SqL.of upd_same) (dp.to (same_upd hv))⟩
/-- one more item -/
theorem LcInv.push {K : PySem.W.Frag} {V0 H0 U H U' H' : Hp} {D : Addr} {acc : List PyData} {xs : List V} {y : V} {d : PyData} (hD : H0 D = none) (x : Ext V0 H0 U H) (hv : U D = none) (hd : H D = some (.lst xs)) (dp : DpAll K U xs acc)
    (x2 : Ext U H U' H') (e : Dp K U' y d) (hl : acc.length < 100000) :
    ∃ acc', H' D = some (.lst acc') ∧ acc'.length < sizeLine ∧ LcInv K V0 H0 D (acc ++ [d]) (upd H' D (.lst (acc' ++ [y]))) := by
  have hv' : U' D = none := x2.keepOut hv (by rw [hd]; exact fun z => by cases z)
  refine ⟨xs, x2.hh _ _ hd, lt_line (by rw [dpall_len dp]; exact hl), U', xs ++ [y], (x.trans x2).poke hD hv', hv', upd_same, dpall_app (dp.to x2.vv) (.cons e .nil)⟩
/-- a comprehension's reading over a walk that leaves the heap as it is: at turn i the item x, then f i: the data of what is put in, or none -/
theorem lc_dp0 {J : It} {n : Nat} {G : Hp → Prop} {Y : Nat → Hp → V → Hp → Prop} (wk : Walk J n G Y) {K : PySem.W.Frag} {V0 H0 : Hp} {D : Addr} {g : TG} {tt : TT} {te : TE} {vs : List Nat} {σ : St} {Qd : Hp → Prop} (f : Nat → Option PyData) (σ0 : St) (hσ : wipe σ vs = σ0) (s0 : Same V0 H0) (hD : H0 D = none) (hn : n < 100000)
    (hG : ∀ H, Same H0 H → G H) (hY : ∀ i H x H', Y i H x H' → H' = H)
    (hs : ∀ i x V H, i < n → Ext V0 H0 V H → Y i H x H → ∀ (Qy : VK) (Qn : Hp → Prop), (∀ d y V' H', f i = some d → Ext V H V' H' → Dp K V' y d → Qy y H') → (f i = none → ∀ V' H', Ext V H V' H' → Qn H') →
      g x σ0 H fun σ2 H2 => wipe σ2 vs = σ0 ∧ tt σ2 H2 fun b H3 => if b = true then te σ2 H3 Qy else Qn H3)
    (hd : ∀ (U H : Hp) (xs : List V), Ext V0 H0 U H → U D = none → H D = some (.lst xs) → DpAll K U xs (fm f n) → Qd H) :
    ∃ W : Nat → Nat → Hp → Prop, (∃ m, W 0 m (upd H0 D (.lst []))) ∧ ∀ i m H, W i m H →
      (J.stop i H ∧ Qd H) ∨ (J.go i H ∧ ∃ Nx : Hp → Prop, (∀ H', Nx H' → ∃ m', m' < m ∧ W (i + 1) m' H') ∧ ∀ x H', J.yld i H x H' → g x (wipe σ vs) H' fun σ2 H2 => wipe σ2 vs = wipe σ vs ∧ tt σ2 H2 fun b H3 =>
        if b = true then te σ2 H3 fun y H4 => ∃ acc, H4 D = some (.lst acc) ∧ acc.length < sizeLine ∧ Nx (upd H4 D (.lst (acc ++ [y]))) else Nx H3) := by
  subst hσ
  refine lc_it wk (fun i H => LcInv K V0 H0 D (fm f i) H) (LcInv.start s0 hD) (fun i H _ p => ?_) (fun i x H H' hi p y => ?_) (fun H p => ?_)
  · obtain ⟨V, xs, x, _⟩ := p.ex
    exact hG H x.hh
  · obtain ⟨V, xs, x0, hv, hdd, dp⟩ := p.ex
    obtain rfl := hY i H x H' y
    refine hs i x V H' hi x0 y _ _ (fun d y' V' H4 e x2 dy => ?_) (fun e V' H4 x2 => ?_)
    · have hl : (fm f i).length < 100000 := Nat.lt_of_le_of_lt (fm_len f i) (Nat.lt_trans hi hn)
      obtain ⟨acc', a1, a2, a3⟩ := LcInv.push hD x0 hv hdd dp x2 dy hl
      refine ⟨acc', a1, a2, ?_⟩
      rw [fm_succ, e]
      exact a3
    · have hv' : V' D = none := x2.keepOut hv (by rw [hdd]; exact fun z => by cases z)
      rw [fm_succ, e]
      show LcInv K V0 H0 D (fm f i ++ []) H4
      rw [List.append_nil]
      exact ⟨V', xs, x0.trans x2, hv', x2.hh _ _ hdd, dp.to x2.vv⟩
  · obtain ⟨U, xs, x, hv, hdd, dp⟩ := p.ex
    exact hd U H xs x hv hdd dp
/-- a comprehension's reading over a walk that leaves the heap as it is: at turn i the item x, then f i: the data of what is put in, or none -/
theorem lc_dp {J : It} {n : Nat} {G : Hp → Prop} {Y : Nat → Hp → V → Hp → Prop} (wk : Walk J n G Y) {K : PySem.W.Frag} {V0 H0 : Hp} {D : Addr} {g : TG} {tt : TT} {te : TE} {vs : List Nat} {σ : St} {Qd : Hp → Prop} (f : Nat → Option PyData) (σ0 : St) (hσ : wipe σ vs = σ0) (s0 : Same V0 H0) (hD : H0 D = none) (hn : n < 100000)
    (hG : ∀ H, Same H0 H → G H) (hY : ∀ i H x H', Y i H x H' → H' = H)
    (hs : ∀ i x V H, i < n → Ext V0 H0 V H → Y i H x H → ∀ (Qy : VK) (Qn : Hp → Prop), (∀ d y V' H', f i = some d → Ext V H V' H' → Dp K V' y d → Qy y H') → (f i = none → ∀ V' H', Ext V H V' H' → Qn H') →
      g x σ0 H fun σ2 H2 => wipe σ2 vs = σ0 ∧ tt σ2 H2 fun b H3 => if b = true then te σ2 H3 Qy else Qn H3)
    (hd : ∀ (U H : Hp) (xs : List V), Ext V0 H0 U H → U D = some (.lst xs) → DpAll K U xs (fm f n) → Dp K U (.ref D) (.list (fm f n)) → Qd H) :
    ∃ W : Nat → Nat → Hp → Prop, (∃ m, W 0 m (upd H0 D (.lst []))) ∧ ∀ i m H, W i m H →
      (J.stop i H ∧ Qd H) ∨ (J.go i H ∧ ∃ Nx : Hp → Prop, (∀ H', Nx H' → ∃ m', m' < m ∧ W (i + 1) m' H') ∧ ∀ x H', J.yld i H x H' → g x (wipe σ vs) H' fun σ2 H2 => wipe σ2 vs = wipe σ vs ∧ tt σ2 H2 fun b H3 =>
        if b = true then te σ2 H3 fun y H4 => ∃ acc, H4 D = some (.lst acc) ∧ acc.length < sizeLine ∧ Nx (upd H4 D (.lst (acc ++ [y]))) else Nx H3) := by
  refine lc_dp0 wk f σ0 hσ s0 hD hn hG hY hs fun U H xs x hv hdd dp => ?_
  exact hd _ H xs (x.take hD hv hdd) upd_same (dp.to (same_upd hv)) (.lst (SqL.of upd_same) (dp.to (same_upd hv)))
theorem fm_map {α β : Type} (f : α → β) : ∀ (xs : List α), fm (fun i => (xs[i]?).map f) xs.length = xs.map f := by
  intro xs
  have h : ∀ n, n ≤ xs.length → fm (fun i => (xs[i]?).map f) n = (xs.take n).map f := by
    intro n
    induction n with
    | zero => intro _; rfl
    | succ n ih =>
      intro hn
      rw [fm_succ, ih (by omega), List.getElem?_eq_getElem (by omega), List.take_succ_eq_append_getElem (by omega), List.map_append]
      rfl
  rw [h _ (Nat.le_refl _), List.take_length]

theorem lc2_outer {J : It} {n : Nat} {G : Hp → Prop} {Y : Nat → Hp → V → Hp → Prop} (wk : Walk J n G Y) {K : PySem.W.Frag} {V0 H0 : Hp} {D : Addr} {g : TG} {vs : List Nat} {σ : St} {body : St → Hp → (Hp → Prop) → Prop} {Qd : Hp → Prop} (F : Nat → List PyData) (σ0 : St) (hσ : wipe σ vs = σ0) (s0 : Same V0 H0) (hD : H0 D = none) (hF : F 0 = [])
    (hG : ∀ H, Same H0 H → G H) (hY : ∀ i H x H', Y i H x H' → H' = H)
    (hs : ∀ i x H, i < n → LcInv K V0 H0 D (F i) H → Y i H x H → ∀ Nx : Hp → Prop, (∀ H', LcInv K V0 H0 D (F (i + 1)) H' → Nx H') → g x σ0 H fun σ2 H2 => wipe σ2 vs = σ0 ∧ body σ2 H2 Nx)
    (hd : ∀ (U H : Hp) (xs : List V), Ext V0 H0 U H → U D = some (.lst xs) → DpAll K U xs (F n) → Dp K U (.ref D) (.list (F n)) → Qd H) :
    ∃ W : Nat → Nat → Hp → Prop, (∃ m, W 0 m (upd H0 D (.lst []))) ∧ ∀ i m H, W i m H →
      (J.stop i H ∧ Qd H) ∨ (J.go i H ∧ ∃ Nx : Hp → Prop, (∀ H', Nx H' → ∃ m', m' < m ∧ W (i + 1) m' H') ∧ ∀ x H', J.yld i H x H' → g x (wipe σ vs) H' fun σ2 H2 => wipe σ2 vs = wipe σ vs ∧ body σ2 H2 Nx) := by
  subst hσ
  refine ⟨fun i m H => m = n - i ∧ i ≤ n ∧ LcInv K V0 H0 D (F i) H, ⟨n, by simp, Nat.zero_le _, by rw [hF]; exact LcInv.start s0 hD⟩, ?_⟩
  rintro i m H ⟨rfl, hi, p⟩
  have sH : Same H0 H := by obtain ⟨_, _, x, _⟩ := p.ex; exact x.hh
  by_cases hlt : i < n
  · refine .inr ⟨wk.goes i H hlt (hG H sH), fun H' => LcInv K V0 H0 D (F (i + 1)) H', fun H' p' => ⟨n - (i + 1), by omega, rfl, hlt, p'⟩, fun x H' y => ?_⟩
    have y' := wk.yields i H x H' hlt (hG H sH) y
    obtain rfl := hY i H x H' y'
    exact hs i x H' hlt p y' _ fun _ h => h
  · have e : i = n := by omega
    subst e
    obtain ⟨U, xs, x, e1, e2, e3⟩ := p.done hD
    exact .inl ⟨wk.stops H (hG H sH), hd U H xs x e1 e2 e3⟩
theorem lc2_inner {J : It} {n : Nat} {G : Hp → Prop} {Y : Nat → Hp → V → Hp → Prop} (wk : Walk J n G Y) {K : PySem.W.Frag} {V0 H0 H4 : Hp} {D : Addr} {acc0 : List PyData} {g : TG} {tt : TT} {te : TE} {vs : List Nat} {σ : St} {Nx : Hp → Prop} (f : Nat → Option PyData) (σ0 : St) (hσ : wipe σ vs = σ0) (hD : H0 D = none)
    (inv : LcInv K V0 H0 D acc0 H4) (hn : acc0.length + n < 100000) (hG : ∀ H, Same H0 H → G H) (hY : ∀ i H x H', Y i H x H' → H' = H)
    (hs : ∀ i x V H, i < n → Ext V0 H0 V H → Y i H x H → ∀ (Qy : VK) (Qn : Hp → Prop), (∀ d y V' H', f i = some d → Ext V H V' H' → Dp K V' y d → Qy y H') → (f i = none → ∀ V' H', Ext V H V' H' → Qn H') →
      g x σ0 H fun σ2 H2 => wipe σ2 vs = σ0 ∧ tt σ2 H2 fun b H3 => if b = true then te σ2 H3 Qy else Qn H3)
    (hd : ∀ H, LcInv K V0 H0 D (acc0 ++ fm f n) H → Nx H) :
    ∃ W : Nat → Nat → Hp → Prop, (∃ m, W 0 m H4) ∧ ∀ i m H, W i m H →
      (J.stop i H ∧ Nx H) ∨ (J.go i H ∧ ∃ Nx1 : Hp → Prop, (∀ H', Nx1 H' → ∃ m', m' < m ∧ W (i + 1) m' H') ∧ ∀ x H', J.yld i H x H' → g x (wipe σ vs) H' fun σ2 H2 => wipe σ2 vs = wipe σ vs ∧ tt σ2 H2 fun b H3 =>
        if b = true then te σ2 H3 fun y H4 => ∃ acc, H4 D = some (.lst acc) ∧ acc.length < sizeLine ∧ Nx1 (upd H4 D (.lst (acc ++ [y]))) else Nx1 H3) := by
  subst hσ
  refine ⟨fun i m H => m = n - i ∧ i ≤ n ∧ LcInv K V0 H0 D (acc0 ++ fm f i) H, ⟨n, by simp, Nat.zero_le _, by rw [show fm f 0 = [] from rfl, List.append_nil]; exact inv⟩, ?_⟩
  rintro i m H ⟨rfl, hi, p⟩
  have sH : Same H0 H := by obtain ⟨_, _, x, _⟩ := p.ex; exact x.hh
  by_cases hlt : i < n
  · refine .inr ⟨wk.goes i H hlt (hG H sH), fun H' => LcInv K V0 H0 D (acc0 ++ fm f (i + 1)) H', fun H' p' => ⟨n - (i + 1), by omega, rfl, hlt, p'⟩, fun x H' y => ?_⟩
    have y' := wk.yields i H x H' hlt (hG H sH) y
    obtain rfl := hY i H x H' y'
    obtain ⟨V, xs, x0, hv, hdd, dp⟩ := p.ex
    refine hs i x V H' hlt x0 y' _ _ (fun d y' V' H4 e x2 dy => ?_) (fun e V' H4 x2 => ?_)
    · have hl : (acc0 ++ fm f i).length < 100000 := by have := fm_len f i; rw [List.length_append]; omega
      obtain ⟨acc', a1, a2, a3⟩ := LcInv.push hD x0 hv hdd dp x2 dy hl
      refine ⟨acc', a1, a2, ?_⟩
      rw [fm_succ, e, ← List.append_assoc]
      exact a3
    · have hv' : V' D = none := x2.keepOut hv (by rw [hdd]; exact fun z => by cases z)
      rw [fm_succ, e]
      show LcInv K V0 H0 D (acc0 ++ (fm f i ++ [])) H4
      rw [List.append_nil]
      exact ⟨V', xs, x0.trans x2, hv', x2.hh _ _ hdd, dp.to x2.vv⟩
  · have e : i = n := by omega
    subst e
    exact .inl ⟨wk.stops H (hG H sH), hd H p⟩
theorem fm_some {α : Type} (f : Nat → α) (n : Nat) : fm (fun i => some (f i)) n = (List.range n).map f := by
  induction n with
  | zero => rfl
  | succ n ih => rw [fm_succ, ih, List.range_succ, List.map_append]; rfl
theorem fl_take' {α : Type} {β : Type} (f : α → List β) : ∀ (xs : List α) (i : Nat) (x : α), xs[i]? = some x → (xs.take (i + 1)).flatMap f = (xs.take i).flatMap f ++ f x := by
  intro xs i x h
  obtain ⟨hi, e⟩ := List.getElem?_eq_some_iff.mp h
  rw [List.take_succ_eq_append_getElem hi, List.flatMap_append, e]
  show _ ++ (f x ++ []) = _
  rw [List.append_nil]
theorem fl_le' {α : Type} {β : Type} (f : α → List β) (xs : List α) (i : Nat) : ((xs.take i).flatMap f).length ≤ (xs.flatMap f).length := by
  have : xs.flatMap f = (xs.take i).flatMap f ++ (xs.drop i).flatMap f := by rw [← List.flatMap_append, List.take_append_drop]
  rw [this, List.length_append]; omega
/-! ### _law_cell, _law_row -/
def lawCell (ns : List Int) (k : Nat) : Int :=
  let c := if 0 < ns.length then ns.getD (k % ns.length) 0 else 0
  if c < 0 then 1 - 2 * c else c
theorem lawCell_nn (ns : List Int) (k : Nat) : 0 ≤ lawCell ns k := by
  unfold lawCell
  simp only
  split <;> omega
def lawOne (c : Int) (k : Nat) : Int := (c * 48271 + (k : Int) * 69621 + 12345) % 2147483647
def lawTwo (o : Int) (k : Nat) : Int := (o * o + 16807 * (k : Int) + 7) % 2147483629
def lawRow (ns : List Int) (k : Nat) : Int :=
  if k < ns.length ∧ 1000000000 ≤ lawCell ns k then lawCell ns k
  else (lawTwo (lawOne (lawCell ns k) k) k * lawTwo (lawOne (lawCell ns k) k) k + lawOne (lawCell ns k) k) % 4294967291 + 4294967296 * (lawOne (lawCell ns k) k + 1)
theorem lawOne_b (c : Int) (k : Nat) : 0 ≤ lawOne c k ∧ lawOne c k < 2147483647 := by unfold lawOne; omega
theorem lawTwo_b (c : Int) (k : Nat) : 0 ≤ lawTwo c k ∧ lawTwo c k < 2147483629 := by
  unfold lawTwo
  generalize c * c + 16807 * (k : Int) + 7 = x
  omega
theorem lawRow_nn (ns : List Int) (k : Nat) : 0 ≤ lawRow ns k := by
  unfold lawRow
  have h1 := lawOne_b (lawCell ns k) k
  split
  · exact lawCell_nn ns k
  · generalize lawTwo (lawOne (lawCell ns k) k) k * lawTwo (lawOne (lawCell ns k) k) k + lawOne (lawCell ns k) k = x
    omega
def sp__law_cell (K : PySem.W.Frag) : Sp := fun vs H Q _ => ∃ (a : Addr) (ns : List Int) (k : Nat), vs = [.ref a, .int (k : Int)] ∧ SqL K H a (ns.map V.int) ∧ Q (.int (lawCell ns k)) H
theorem sc__law_cell : FnScope ["script", "k", "cell"] ["script", "k"] (defScope s__law_cell) := ⟨rfl, rfl, rfl, by decide +kernel, rfl, by decide +kernel, by decide +kernel⟩
theorem ok__law_cell (T : Txt K mg A) : FnOk P w K mg base CX0 1 A.f_law_cell A.d_law_cell ["script", "k"] (sp__law_cell K) := by
  refine T.F_law_cell.ok sc__law_cell (fun vs H Q E h => ?_) (fun cdv Ar outer s H vs Q E hr h => ?_)
  · obtain ⟨a, ns, k, rfl, _⟩ := h
    rfl
  · obtain ⟨a, ns, k, rfl, hS, q⟩ := h
    refine ⟨_, (pss_cons (ps_set (i := 2) sc__law_cell.nd rfl (Or.inl rfl) pe_int)
      (pss_cons (ps_if (pt_cmpR op_gt (pe_callB call_len_seq (by rfl) T.len PySem.boot_len (pa_cons (pv 0) pa_nil)) pe_int (nomark _))
      (pss_one (ps_set (i := 2) sc__law_cell.nd rfl (Or.inl rfl) (pe_ix ix_list (pv 0) (pe_op op_mod (pe_callTy call_int1 (by rfl) T.int (by decide +kernel) (pa_cons (pv 1) pa_nil)) (pe_callB call_len_seq (by rfl) T.len PySem.boot_len (pa_cons (pv 0) pa_nil))) (fun _ _ => rfl))))
      pss_nil)
      (pss_cons (ps_if (pt_cmpR op_lt (pv 2) pe_int (nomark _))
      (pss_one (ps_set (i := 2) sc__law_cell.nd rfl (Or.inl rfl) (pe_op op_sub pe_int (pe_op op_mul pe_int (pv 2)))))
      pss_nil)
      (pss_one (ps_ret (pv 2)))))), ?_⟩
    have two : ∀ (c : Int), (if c < 0 then 1 - 2 * c else c) = lawCell ns k → tSeq (tIfS (tTest (tOp (rI0 fun i j => .bl (decide (i < j))) (tVar 2) (tC (.int 0)))) (tAsg (tOp (rI0 fun i j => .int (i - j)) (tC (.int 1)) (tOp (rI CMul fun i j => .int (i * j)) (tC (.int 2)) (tVar 2))) (gName 2)) tNext) (tRet (tVar 2))
        { nx := fun _ H' => Q .non H', rt := Q } [some (.ref a), some (.int (k : Int)), some (.int c)] H := by
      intro c hc
      walk_at "rd"
      refine iteP (fun h => ?_) (fun h => ?_)
      · rw [if_pos h] at hc
        walk_at "rd"
        rw [← hc] at q; exact q
      · rw [if_neg h] at hc
        walk_at "rd"
        rw [← hc] at q; exact q
    refine ⟨.ref a, rfl, a, _, rfl, .inl hS, _, _, rfl, rfl, _, rfl, iteP (fun h => ?_) (fun h => ?_)⟩
    · have h0 : 0 < ns.length := by rw [List.length_map] at h; omega
      refine ⟨_, rfl, _, rfl, Or.inl ⟨_, rfl, ?_⟩⟩
      refine ⟨_, rfl, a, _, rfl, .inl hS, _, _, rfl, rfl, by show (0 : Int) < _; omega, a, _, _, .int (ns.getD (k % ns.length) 0), rfl, rfl, hS, ?_, ?_⟩
      · refine at_of (j := k % ns.length) ?_ ?_
        · rw [List.length_map]; exact (Int.natCast_emod _ _).symm
        · rw [List.getElem?_map, List.getElem?_eq_getElem (Nat.mod_lt _ h0), List.getD_eq_getElem?_getD, List.getElem?_eq_getElem (Nat.mod_lt _ h0)]; rfl
      · refine two _ ?_
        unfold lawCell; rw [if_pos h0]
    · have h0 : ¬ 0 < ns.length := by rw [List.length_map] at h; omega
      refine two _ ?_
      unfold lawCell; rw [if_neg h0]
def sp__law_row (K : PySem.W.Frag) : Sp := fun vs H Q _ => ∃ (a : Addr) (ns : List Int) (k : Nat), vs = [.ref a, .int (k : Int)] ∧ SqL K H a (ns.map V.int) ∧ Q (.int (lawRow ns k)) H
theorem sc__law_row : FnScope ["script", "k", "cell", "one", "two"] ["script", "k"] (defScope s__law_row) := ⟨rfl, rfl, rfl, by decide +kernel, rfl, by decide +kernel, by decide +kernel⟩
theorem ok__law_row (T : Txt K mg A) : FnOk P w K mg base CX0 2 A.f_law_row A.d_law_row ["script", "k"] (sp__law_row K) := by
  refine T.F_law_row.ok sc__law_row (fun vs H Q E h => ?_) (fun cdv Ar outer s H vs Q E hr h => ?_)
  · obtain ⟨a, ns, k, rfl, _⟩ := h
    rfl
  · obtain ⟨a, ns, k, rfl, hS, q⟩ := h
    refine ⟨_, (pss_cons (ps_set (i := 2) sc__law_row.nd rfl (Or.inl rfl) (pe_call (ok__law_cell T) (hr.mono (by decide)) rfl T.g_law_cell T.k_law_cell T.b_law_cell .nil pass0 (pa_cons (pv 0) (pa_cons (pv 1) pa_nil))))
      (pss_cons (ps_if (PW.pt (pw_and (pt_cmpR op_lt (pv 1) (pe_callB call_len_seq (by rfl) T.len PySem.boot_len (pa_cons (pv 0) pa_nil)) (nomark _)) (pw_and1 (pt_cmpR op_ge (pv 2) pe_int (nomark _)))))
      (pss_one (ps_ret (pv 2)))
      pss_nil)
      (pss_cons (ps_set (i := 3) sc__law_row.nd rfl (Or.inl rfl) (pe_op op_mod (pe_callTy call_int1 (by rfl) T.int (by decide +kernel) (pa_cons (pe_op op_add (pe_op op_add (pe_op op_mul (pv 2) pe_int) (pe_op op_mul (pv 1) pe_int)) pe_int) pa_nil)) pe_int))
      (pss_cons (ps_set (i := 4) sc__law_row.nd rfl (Or.inl rfl) (pe_op op_mod (pe_callTy call_int1 (by rfl) T.int (by decide +kernel) (pa_cons (pe_op op_add (pe_op op_add (pe_op op_mul (pv 3) (pv 3)) (pe_op op_mul pe_int (pv 1))) pe_int) pa_nil)) pe_int))
      (pss_one (ps_ret (pe_op op_add (pe_op op_mod (pe_callTy call_int1 (by rfl) T.int (by decide +kernel) (pa_cons (pe_op op_add (pe_op op_mul (pv 4) (pv 4)) (pv 3)) pa_nil)) pe_int) (pe_op op_mul pe_int (pe_op op_add (pv 3) pe_int))))))))), ?_⟩
    have b1 := lawOne_b (lawCell ns k) k
    have b2 := lawTwo_b (lawOne (lawCell ns k) k) k
    have m1 : CMul (lawOne (lawCell ns k) k) (lawOne (lawCell ns k) k) := Or.inl ⟨by omega, by omega⟩
    have m2 : CMul (lawTwo (lawOne (lawCell ns k) k) k) (lawTwo (lawOne (lawCell ns k) k) k) := Or.inl ⟨by omega, by omega⟩
    refine ⟨_, rfl, _, rfl, a, ns, k, rfl, hS, ?_⟩
    refine ⟨_, rfl, _, rfl, a, _, rfl, .inl hS, _, _, rfl, rfl, _, rfl, ?_⟩
    refine iteP (fun h => ?_) (fun h => ?_)
    · refine ⟨_, rfl, _, _, rfl, rfl, _, rfl, iteP (fun h2 => ?_) (fun h2 => ?_)⟩
      · have e : lawRow ns k = lawCell ns k := by unfold lawRow; rw [if_pos ⟨by rw [List.length_map] at h; omega, h2⟩]
        rw [e] at q
        exact ⟨_, rfl, q⟩
      · unfold lawRow at q
        rw [if_neg fun z => h2 z.2] at q
        walk_at "rd"
        refine ⟨m1, ?_⟩
        walk_at "rd"
        refine ⟨m2, ?_⟩
        walk_at "rd"
        exact q
    · unfold lawRow at q
      rw [if_neg fun z => h (by rw [List.length_map]; omega)] at q
      walk_at "rd"
      refine ⟨m1, ?_⟩
      walk_at "rd"
      refine ⟨m2, ?_⟩
      walk_at "rd"
      exact q
/-! ### regions -/
abbrev Span := Int × Int
abbrev Band := Int × Int × List Span
def spanD (s : Span) : PyData := .tuple [.int s.1, .int s.2]
def spansD (ss : List Span) : PyData := .tuple (ss.map spanD)
def bandD (b : Band) : PyData := .tuple [.int b.1, .int b.2.1, spansD b.2.2]
def regD (R : List Band) : PyData := .list (R.map bandD)
def hasSq : List Band → Int → Int → Bool
  | [], _, _ => false
  | b :: r, x, y => if b.1 ≤ y ∧ y < b.2.1 then b.2.2.any (fun s => decide (s.1 ≤ x ∧ x < s.2)) else hasSq r x y
def rectReg (x y w h : Int) : List Band := if w ≤ 0 ∨ h ≤ 0 then [] else [(y, y + h, [(x, x + w)])]
theorem dp_span {K : PySem.W.Frag} {H : Hp} {v : V} {s : Span} (h : Dp K H v (spanD s)) : ∃ a, v = .ref a ∧ SqT K H a [.int s.1, .int s.2] := by
  obtain ⟨a, xs, e, q, r⟩ := dp_tuple h
  cases r with | cons r1 r => cases r with | cons r2 r => cases r; cases r1; cases r2; exact ⟨a, e, q⟩
theorem dp_band {K : PySem.W.Frag} {H : Hp} {v : V} {b : Band} (h : Dp K H v (bandD b)) : ∃ a p ss, v = .ref a ∧ SqT K H a [.int b.1, .int b.2.1, .ref p] ∧ SqT K H p ss ∧ DpAll K H ss (b.2.2.map spanD) := by
  obtain ⟨a, xs, e, q, r⟩ := dp_tuple h
  cases r with | cons r1 r => cases r with | cons r2 r => cases r with | cons r3 r =>
    cases r; cases r1; cases r2
    obtain ⟨p, ss, rfl, q2, r4⟩ := dp_tuple r3
    exact ⟨a, p, ss, e, q, q2, r4⟩
theorem mk_span {K : PySem.W.Frag} {H : Hp} {a : Addr} {s : Span} (h : SqT K H a [.int s.1, .int s.2]) : Dp K H (.ref a) (spanD s) := .tup h (.cons (.int _) (.cons (.int _) .nil))
theorem mk_band {K : PySem.W.Frag} {H : Hp} {a p : Addr} {ss : List V} {b : Band} (h : SqT K H a [.int b.1, .int b.2.1, .ref p]) (q : SqT K H p ss) (r : DpAll K H ss (b.2.2.map spanD)) : Dp K H (.ref a) (bandD b) :=
  .tup h (.cons (.int _) (.cons (.int _) (.cons (.tup q r) .nil)))
theorem sh_span (s : Span) : Sh 1 (spanD s) := sh_tuple fun d hd => by
  simp only [List.mem_cons, List.not_mem_nil, or_false] at hd
  rcases hd with rfl | rfl <;> exact sh_int _
theorem sh_spans (ss : List Span) : Sh 2 (spansD ss) := sh_tuple fun d hd => by
  obtain ⟨s, _, rfl⟩ := List.mem_map.mp hd
  exact sh_span s
theorem sh_band (b : Band) : Sh 3 (bandD b) := sh_tuple fun d hd => by
  simp only [List.mem_cons, List.not_mem_nil, or_false] at hd
  rcases hd with rfl | rfl | rfl
  · exact (sh_int _).mono (by decide)
  · exact (sh_int _).mono (by decide)
  · exact (sh_spans _).mono (by decide)
theorem sh_reg (R : List Band) : Sh 4 (regD R) := sh_list fun d hd => by
  obtain ⟨s, _, rfl⟩ := List.mem_map.mp hd
  exact sh_band s
def sp_rectangle_region (K : PySem.W.Frag) : Sp := fun vs H Q _ => ∃ (x y wd ht : Int) (U : Hp), vs = [.int x, .int y, .int wd, .int ht] ∧ Same U H ∧
  ∀ v U' H', Ext U H U' H' → Dp K U' v (regD (rectReg x y wd ht)) → Q v H'
theorem sc_rectangle_region : FnScope ["x", "y", "width", "height"] ["x", "y", "width", "height"] (defScope s_rectangle_region) := ⟨rfl, rfl, rfl, by decide +kernel, rfl, by decide +kernel, by decide +kernel⟩
theorem ok_rectangle_region (T : Txt K mg A) : FnOk P w K mg base CX0 1 A.frectangle_region A.drectangle_region ["x", "y", "width", "height"] (sp_rectangle_region K) := by
  refine T.Frectangle_region.ok sc_rectangle_region (fun vs H Q E h => ?_) (fun cdv Ar outer s H vs Q E hr h => ?_)
  · obtain ⟨x, y, wd, ht, U, rfl, _⟩ := h
    rfl
  · obtain ⟨x, y, wd, ht, U, rfl, hU, q⟩ := h
    refine ⟨_, (pss_cons (ps_if (PW.pt (pw_or (pt_cmpR op_le (pv 2) pe_int (nomark _)) (pw_or1 (pt_cmpR op_le (pv 3) pe_int (nomark _)))))
      (pss_one (ps_ret (pe_lst pa_nil)))
      pss_nil)
      (pss_one (ps_ret (pe_lst (pa_cons (pe_tup (pa_cons (pv 1) (pa_cons (pe_op op_add (pv 1) (pv 3)) (pa_cons (pe_tup (pa_cons (pe_tup (pa_cons (pv 0) (pa_cons (pe_op op_add (pv 0) (pv 2)) pa_nil))) pa_nil)) pa_nil)))) pa_nil))))), ?_⟩
    have empty : (wd ≤ 0 ∨ ht ≤ 0) → ∀ p, H p = none → Q (.ref p) (upd H p (.lst [])) := fun c p hp => by
      refine q _ _ _ (Ext.new hU hp) ?_
      unfold rectReg; rw [if_pos c]
      exact .lst (SqL.of upd_same) .nil
    refine ⟨_, rfl, _, _, rfl, rfl, _, rfl, iteP (fun h => ?_) (fun h => ?_)⟩
    · exact if_t rfl ⟨by decide, empty (Or.inl h)⟩
    · refine ⟨_, rfl, _, _, rfl, rfl, _, rfl, iteP (fun h2 => ?_) (fun h2 => ?_)⟩
      · exact ⟨by decide, empty (Or.inr h2)⟩
      · refine ⟨_, rfl, _, rfl, _, rfl, _, _, rfl, rfl, _, rfl, _, rfl, _, rfl, _, _, rfl, rfl, len_line (by show 2 ≤ 100000; decide), fun p1 n1 => ?_⟩
        refine ⟨len_line (by show 1 ≤ 100000; decide), fun p2 n2 => ⟨len_line (by show 3 ≤ 100000; decide), fun p3 n3 => ⟨len_line (by show 1 ≤ 100000; decide), fun p4 n4 => ?_⟩⟩⟩
        have x1 := Ext.new (o := .tup [.int x, .int (x + wd)]) hU n1
        have x2 := x1.trans (Ext.new (o := .tup [.ref p1]) x1.vh n2)
        have x3 := x2.trans (Ext.new (o := .tup [.int y, .int (y + ht), .ref p2]) x2.vh n3)
        have x4 := x3.trans (Ext.new (o := .lst [.ref p3]) x3.vh n4)
        refine q _ _ _ x4 ?_
        unfold rectReg; rw [if_neg (by omega)]
        have s2 := same_upd (o := .tup [.ref p1]) (none_of_same x1.vh n2)
        have s3 := same_upd (o := .tup [.int y, .int (y + ht), .ref p2]) (none_of_same x2.vh n3)
        have s4 := same_upd (o := .lst [.ref p3]) (none_of_same x3.vh n4)
        refine .lst (SqL.of upd_same) (.cons (.to (mk_band (b := (y, y + ht, [(x, x + wd)])) (ss := [.ref p1]) (SqT.of upd_same) (s3.sqt (SqT.of upd_same)) (.cons ?_ .nil)) s4) .nil)
        exact (mk_span (s := (x, x + wd)) (SqT.of upd_same)).to (s2.trans s3)
def rectsOf (b : Band) : List PyData := b.2.2.map fun s => .tuple [.int s.1, .int b.1, .int (s.2 - s.1), .int (b.2.1 - b.1)]
def rectsD (R : List Band) : PyData := .list (R.flatMap rectsOf)
def sp_rectangles (K : PySem.W.Frag) : Sp := fun vs H Q _ => ∃ (r : V) (R : List Band) (U : Hp), vs = [r] ∧ Same U H ∧ Dp K H r (regD R) ∧ (R.flatMap rectsOf).length < 90000 ∧ R.length < 90000 ∧ 
  ∀ v U' H', Ext U H U' H' → Dp K U' v (rectsD R) → Q v H'
theorem sc_rectangles : FnScope ["region", "top", "bottom", "spans", "begin", "end"] ["region"] (defScope s_rectangles) := ⟨rfl, rfl, rfl, by decide +kernel, rfl, by decide +kernel, by decide +kernel⟩
theorem fl_take {α : Type} {β : Type} (f : α → List β) : ∀ (xs : List α) (i : Nat) (x : α), xs[i]? = some x → (xs.take (i + 1)).flatMap f = (xs.take i).flatMap f ++ f x := by
  intro xs i x h
  obtain ⟨hi, e⟩ := List.getElem?_eq_some_iff.mp h
  rw [List.take_succ_eq_append_getElem hi, List.flatMap_append, e]
  show _ ++ (f x ++ []) = _
  rw [List.append_nil]
theorem fl_le {α : Type} {β : Type} (f : α → List β) (xs : List α) (i : Nat) : ((xs.take i).flatMap f).length ≤ (xs.flatMap f).length := by
  have : xs.flatMap f = (xs.take i).flatMap f ++ (xs.drop i).flatMap f := by rw [← List.flatMap_append, List.take_append_drop]
  rw [this, List.length_append]; omega
theorem ok_rectangles (T : Txt K mg A) : FnOk P w K mg base CX0 1 A.frectangles A.drectangles ["region"] (sp_rectangles K) := by
  refine T.Frectangles.ok sc_rectangles (fun vs H Q E h => ?_) (fun cdv Ar outer s H vs Q E hr h => ?_)
  · obtain ⟨r, R, U, rfl, _⟩ := h
    rfl
  · obtain ⟨r, R, U, rfl, hU, hR, hl, hl2, q⟩ := h
    obtain ⟨a, xs, rfl, hS, hD⟩ := dp_list hR
    refine ⟨_, (pss_one (ps_ret (pe_lc2 (own := [("top", 1), ("bottom", 2), ("spans", 3), ("begin", 4), ("end", 5)]) (g := (gTup K 3 (gCons (gName 1) (gCons (gName 2) (gCons (gName 3) gNil))))) (tt := tYes) (tt1 := tYes) (g1 := (gTup K 2 (gCons (gName 4) (gCons (gName 5) gNil)))) (vs1 := [4, 5]) (wi1 := iTup K (tVar 3)) rfl sc_rectangles.nd (pi_list (pv 0)) (blkOk_by (own := [("top", 1), ("bottom", 2), ("spans", 3), ("begin", 4), ("end", 5)]) (N := ["region", "top", "bottom", "spans", "begin", "end"]) (sc := defScope s_rectangles) (by decide +kernel)) (by decide) (fun _ _ _ _ _ => by exact (pg_tup rfl (pgs_cons (pg_name (i := 1) sc_rectangles.nd rfl (Or.inl rfl)) (pgs_cons (pg_name (i := 2) sc_rectangles.nd rfl (Or.inl rfl)) (pgs_cons (pg_name (i := 3) sc_rectangles.nd rfl (Or.inl rfl)) pgs_nil))))) (fun _ _ _ _ _ => pts_nil) (fun _ _ _ _ _ => by exact (pi_tup (pv 3))) (fun _ _ _ _ _ => by exact (pg_tup rfl (pgs_cons (pg_name (i := 4) sc_rectangles.nd rfl (Or.inl rfl)) (pgs_cons (pg_name (i := 5) sc_rectangles.nd rfl (Or.inl rfl)) pgs_nil)))) (fun _ _ _ _ _ => pts_nil) (fun _ _ _ _ _ => by exact (pe_tup (pa_cons (pv 4) (pa_cons (pv 1) (pa_cons (pe_op op_sub (pv 5) (pv 4)) (pa_cons (pe_op op_sub (pv 2) (pv 1)) pa_nil))))))))), ?_⟩
    refine ⟨_, rfl, a, rfl, ⟨_, hS⟩, fun D hDn => ?_⟩
    have ex : xs.length = R.length := by rw [dpall_len hD, List.length_map]
    refine lc2_outer (K := K) (walk_list (K := K) (a := a) (xs := xs)) (fun i => (R.take i).flatMap rectsOf) [some (.ref a), none, none, none, none, none] rfl hU hDn rfl (fun H' s => s.seq hS) (fun i x H H' y => y.1) ?_ ?_
    · rintro i v H1 hi inv ⟨_, hv⟩ Nx hN
      have s1 : Same H H1 := by obtain ⟨_, _, x, _⟩ := inv.ex; exact x.hh
      obtain ⟨d, hd, dv⟩ := dpall_get hD hv
      rw [List.getElem?_map] at hd
      obtain ⟨b, hb, rfl⟩ := Option.map_eq_some_iff.mp hd
      obtain ⟨ab, p, ss, rfl, qa, qp, qs⟩ := dp_band dv
      refine ⟨ab, _, rfl, s1.sqt qa, rfl, _, _, rfl, _, _, rfl, _, _, rfl, rfl, rfl, _, rfl, p, rfl, ⟨_, s1.sqt qp⟩, ?_⟩
      have hss : ss.length = (rectsOf b).length := by
        unfold rectsOf; rw [dpall_len qs, List.length_map, List.length_map]
      have e1 := fl_take rectsOf R i b hb
      have l1 := fl_le rectsOf R (i + 1)
      rw [e1, List.length_append] at l1
      refine lc2_inner (K := K) (walk_tup (K := K) (a := p) (xs := ss)) (fun j => (rectsOf b)[j]?) [some (.ref a), some (.int b.1), some (.int b.2.1), some (.ref p), none, none] rfl hDn inv (by omega) (fun H' s => s.sqt qp) (fun i x H H' y => y.1) ?_ ?_
      · rintro j v U2 H2 hj xx ⟨_, hv⟩ Qy Qn hy _
        obtain ⟨d, hd, dv⟩ := dpall_get qs hv
        rw [List.getElem?_map] at hd
        obtain ⟨sp, hsp, rfl⟩ := Option.map_eq_some_iff.mp hd
        obtain ⟨as, rfl, qsp⟩ := dp_span dv
        refine ⟨as, _, rfl, xx.hh.sqt qsp, rfl, _, _, rfl, _, _, rfl, rfl, rfl, _, rfl, _, rfl, _, rfl, _, rfl, _, _, rfl, rfl, _, rfl, _, rfl, _, _, rfl, rfl, len_line (by show 4 ≤ 100000; decide), fun pt nt => ?_⟩
        refine hy (.tuple [.int sp.1, .int b.1, .int (sp.2 - sp.1), .int (b.2.1 - b.1)]) _ _ _ ?_ (Ext.new xx.vh nt) (.tup (SqT.of upd_same) (.cons (.int _) (.cons (.int _) (.cons (.int _) (.cons (.int _) .nil)))))
        unfold rectsOf; rw [List.getElem?_map, hsp]; rfl
      · intro H2 inv2
        refine hN H2 ?_
        rw [hss] at inv2
        have e3 : fm (fun j => (rectsOf b)[j]?) (rectsOf b).length = rectsOf b := by
          have := fm_map (fun d : PyData => d) (rectsOf b)
          simpa using this
        rw [e3] at inv2
        rw [e1]; exact inv2
    · intro U1 H1 _ xx _ _ dl
      rw [ex, List.take_length] at dl
      exact q _ _ _ xx dl
def sp_has_square (K : PySem.W.Frag) : Sp := fun vs H Q _ => ∃ (r : V) (R : List Band) (x y : Int), vs = [r, .int x, .int y] ∧ Dp K H r (regD R) ∧ (∀ b ∈ R, b.2.2.length < 100000) ∧
  ∀ H', Same H H' → Q (.bl (hasSq R x y)) H'
theorem sc_has_square : FnScope ["region", "x", "y", "top", "bottom", "spans", "begin", "end"] ["region", "x", "y"] (defScope s_has_square) := ⟨rfl, rfl, rfl, by decide +kernel, rfl, by decide +kernel, by decide +kernel⟩
theorem hasSq_drop {R : List Band} {i : Nat} {b : Band} {x y : Int} (h : R[i]? = some b) : hasSq (R.drop i) x y = if b.1 ≤ y ∧ y < b.2.1 then b.2.2.any (fun s => decide (s.1 ≤ x ∧ x < s.2)) else hasSq (R.drop (i + 1)) x y := by
  obtain ⟨hi, e⟩ := List.getElem?_eq_some_iff.mp h
  rw [List.drop_eq_getElem_cons hi, e]
  rfl
theorem bls {f : Nat → Option Bool} {n : Nat} {g : Nat → Option PyData} (h : ∀ i, i < n → g i = (f i).map PyData.bool) : fm g n = (fm f n).map PyData.bool := by
  induction n with
  | zero => rfl
  | succ n ih =>
    rw [fm_succ, fm_succ, ih fun i hi => h i (Nat.lt_succ_of_lt hi), h n (Nat.lt_succ_self n), List.map_append]
    cases f n <;> rfl
theorem dp_bools {K : PySem.W.Frag} {H : Hp} {a : Addr} {bs : List Bool} (h : Dp K H (.ref a) (.list (bs.map PyData.bool))) : SqL K H a (bs.map V.bl) := by
  obtain ⟨a', xs, e, q, r⟩ := dp_list h
  cases e
  have : xs = bs.map V.bl := by
    clear h q
    induction bs generalizing xs with
    | nil => cases r; rfl
    | cons b bs ih =>
      cases r with
      | cons r1 r2 => cases r1; rw [ih _ r2]; rfl
  rw [← this]; exact q
theorem ok_has_square (T : Txt K mg A) : FnOk P w K mg base CX0 1 A.fhas_square A.dhas_square ["region", "x", "y"] (sp_has_square K) := by
  refine T.Fhas_square.ok sc_has_square (fun vs H Q E h => ?_) (fun cdv Ar outer s H vs Q E hr h => ?_)
  · obtain ⟨r, R, x, y, rfl, _⟩ := h
    rfl
  · obtain ⟨r, R, x, y, rfl, hR, hlen, q⟩ := h
    obtain ⟨a, xs, rfl, hS, hD⟩ := dp_list hR
    refine ⟨_, (pss_cons (ps_for PassesOwn.never rfl (pi_list (pv 0)) (pg_tup rfl (pgs_cons (pg_name (i := 3) sc_has_square.nd rfl (Or.inl rfl)) (pgs_cons (pg_name (i := 4) sc_has_square.nd rfl (Or.inl rfl)) (pgs_cons (pg_name (i := 5) sc_has_square.nd rfl (Or.inl rfl)) pgs_nil))))
      (pss_one (ps_if (pt_chain op_le op_lt (pv 3) (pv 2) (pv 4))
      (pss_one (ps_ret (pe_callB (cr_any rfl) (by rfl) T.any (by decide +kernel) (pa_cons (pe_lc (own := [("begin", 6), ("end", 7)]) (g := gTup K 2 (gCons (gName 6) (gCons (gName 7) gNil))) (tt := tYes) rfl sc_has_square.nd (pi_tup (pv 5)) (blkOk_by (own := [("begin", 6), ("end", 7)]) (N := ["region", "x", "y", "top", "bottom", "spans", "begin", "end"]) (sc := defScope s_has_square) (by decide +kernel)) (fun _ _ _ _ _ => by exact (pg_tup rfl (pgs_cons (pg_name (i := 6) sc_has_square.nd rfl (Or.inl rfl)) (pgs_cons (pg_name (i := 7) sc_has_square.nd rfl (Or.inl rfl)) pgs_nil)))) (fun _ _ _ _ _ => pts_nil) (fun _ _ _ _ _ => (pe_chain op_le op_lt (pv 6) (pv 1) (pv 7)))) pa_nil))))
      pss_nil)))
      (pss_one (ps_ret pe_bl))), ?_⟩
    refine ⟨_, rfl, a, rfl, ⟨_, hS⟩, for_list (K := K) (a := a) (xs := xs) (fun i σ H' => ∃ v3 v4 v5 v6 v7 : Option V, σ = [some (.ref a), some (.int x), some (.int y), v3, v4, v5, v6, v7] ∧ Same H H' ∧ hasSq R x y = hasSq (R.drop i) x y)
      ⟨_, _, _, _, _, rfl, Same.refl H, rfl⟩ (fun i σ H' _ ⟨_, _, _, _, _, _, s, _⟩ => s.seq hS) ?_ ?_⟩
    · rintro i v σ H1 hi ⟨v3, v4, v5, v6, v7, rfl, s1, e1⟩
      obtain ⟨d, hd, dv⟩ := dpall_get hD hi
      rw [List.getElem?_map] at hd
      obtain ⟨b, hb, rfl⟩ := Option.map_eq_some_iff.mp hd
      obtain ⟨ab, p, ss, rfl, qa, qp, qs⟩ := dp_band dv
      rw [hasSq_drop hb] at e1
      refine ⟨ab, _, rfl, s1.sqt qa, rfl, _, _, rfl, _, _, rfl, _, _, rfl, rfl, ?_⟩
      refine ⟨_, rfl, _, rfl, _, _, rfl, rfl, _, rfl, iteP (fun h => ?_) (fun h => ?_)⟩
      · refine ⟨_, rfl, _, _, rfl, rfl, _, rfl, iteP (fun h2 => ?_) (fun h2 => ?_)⟩
        · rw [if_pos ⟨h, h2⟩] at e1
          refine ⟨_, rfl, p, rfl, ⟨_, s1.sqt qp⟩, fun D hDn => ?_⟩
          have hss : ss.length < 100000 := by
            rw [dpall_len qs, List.length_map]; exact hlen b (List.mem_of_getElem? hb)
          refine lc_dp (walk_tup (K := K) (a := p) (xs := ss)) (K := K) (V0 := H1) (H0 := H1) (fun i => (b.2.2[i]?).map fun s => PyData.bool (decide (s.1 ≤ x ∧ x < s.2))) [some (.ref a), some (.int x), some (.int y), some (.int b.1), some (.int b.2.1), some (.ref p), none, none] rfl (Same.refl _) hDn hss (fun H' s => (s1.trans s).sqt qp) (fun i x H H' y => y.1) ?_ ?_
          · rintro j v U H2 hj xx ⟨_, hv⟩ Qy Qn hy _
            obtain ⟨d, hd, dv⟩ := dpall_get qs hv
            rw [List.getElem?_map] at hd
            obtain ⟨sp, hsp, rfl⟩ := Option.map_eq_some_iff.mp hd
            obtain ⟨as, rfl, qsp⟩ := dp_span dv
            refine ⟨as, _, rfl, (s1.trans xx.hh).sqt qsp, rfl, _, _, rfl, _, _, rfl, rfl, rfl, _, rfl, _, rfl, _, _, rfl, rfl, _, rfl, iteP (fun h3 => ?_) (fun h3 => ?_)⟩
            · refine ⟨_, rfl, _, _, rfl, rfl, hy _ _ _ _ (by rw [hsp]; rfl) (Ext.refl xx.vh) ?_⟩
              have e : decide (sp.1 ≤ x ∧ x < sp.2) = decide (x < sp.2) := by
                by_cases c : x < sp.2
                · rw [decide_eq_true c, decide_eq_true ⟨h3, c⟩]
                · rw [decide_eq_false c, decide_eq_false fun z => c z.2]
              dsimp only; rw [e]; exact .bl _
            · refine hy _ _ _ _ (by rw [hsp]; rfl) (Ext.refl xx.vh) ?_
              dsimp only; rw [decide_eq_false fun z => h3 z.1]; exact .bl _
          · rintro U H2 _ xx _ _ dl
            have el : ss.length = b.2.2.length := by rw [dpall_len qs, List.length_map]
            rw [el, fm_map] at dl
            have dl2 : Dp K U (.ref D) (.list ((b.2.2.map fun s => decide (s.1 ≤ x ∧ x < s.2)).map PyData.bool)) := by
              rw [List.map_map]; exact dl
            refine ⟨D, _, rfl, xx.vh.seq (dp_bools dl2), ?_⟩
            have e2 : (b.2.2.map fun s => decide (s.1 ≤ x ∧ x < s.2)).any id = hasSq R x y := by
              rw [e1, List.any_map]; rfl
            rw [e2]
            exact q _ (s1.trans xx.hh)
        · rw [if_neg fun z => h2 z.2] at e1
          exact ⟨_, _, _, _, _, rfl, s1, e1⟩
      · rw [if_neg fun z => h z.1] at e1
        exact ⟨_, rfl, if_f rfl ⟨_, _, _, _, _, rfl, s1, e1⟩⟩
    · rintro σ H1 ⟨v3, v4, v5, v6, v7, rfl, s1, e1⟩
      have e0 : hasSq R x y = false := by
        rw [e1, List.drop_eq_nil_of_le]
        · rfl
        · rw [dpall_len hD, List.length_map]; exact Nat.le_refl _
      have := q H1 s1
      rw [e0] at this
      exact this
theorem hasSq_rect {x y wd ht a b : Int} (hw : ¬ (wd ≤ 0 ∨ ht ≤ 0)) : hasSq (rectReg x y wd ht) a b = decide ((x ≤ a ∧ a < x + wd) ∧ y ≤ b ∧ b < y + ht) := by
  unfold rectReg
  rw [if_neg hw]
  show (if y ≤ b ∧ b < y + ht then [(x, x + wd)].any (fun s => decide (s.1 ≤ a ∧ a < s.2)) else false) = _
  by_cases h : y ≤ b ∧ b < y + ht
  · rw [if_pos h, List.any_cons, List.any_nil, Bool.or_false]
    by_cases g : x ≤ a ∧ a < x + wd
    · rw [decide_eq_true g, decide_eq_true ⟨g, h⟩]
    · rw [decide_eq_false g, decide_eq_false fun z => g z.1]
  · rw [if_neg h, decide_eq_false fun z => h z.2]
theorem sc_law : FnScope ["script", "row", "more", "x", "y", "width", "height", "region", "a", "b", "due"] ["script"] (defScope s_law) := ⟨rfl, rfl, rfl, by decide +kernel, rfl, by decide +kernel, by decide +kernel⟩
theorem ok_law (T : Txt K mg A) : FnOk P w K mg base CX0 3 A.flaw A.dlaw ["script"] (sp_law K) := by
  refine T.Flaw.ok sc_law (fun vs H Q E h => ?_) (fun cdv Ar outer s H vs Q E hr h => ?_)
  · obtain ⟨a, ns, rfl, _⟩ := h
    rfl
  · obtain ⟨l, ns, rfl, hS, hlen, q⟩ := h
    refine ⟨_, (pss_cons (ps_set (i := 1) sc_law.nd rfl (Or.inl rfl) (pe_call (ok__law_row T) (hr.mono (by decide)) rfl T.g_law_row T.k_law_row T.b_law_row .nil pass0 (pa_cons (pv 0) (pa_cons pe_int pa_nil))))
      (pss_cons (ps_set (i := 2) sc_law.nd rfl (Or.inl rfl) (pe_call (ok__law_row T) (hr.mono (by decide)) rfl T.g_law_row T.k_law_row T.b_law_row .nil pass0 (pa_cons (pv 0) (pa_cons pe_int pa_nil))))
      (pss_cons (ps_set (i := 3) sc_law.nd rfl (Or.inl rfl) (pe_op op_sub (pe_op op_mod (pe_callTy call_int1 (by rfl) T.int (by decide +kernel) (pa_cons (pv 1) pa_nil)) pe_int) pe_int))
      (pss_cons (ps_set (i := 4) sc_law.nd rfl (Or.inl rfl) (pe_op op_sub (pe_op op_mod (pe_callTy call_int1 (by rfl) T.int (by decide +kernel) (pa_cons (pe_op op_fdiv (pv 1) pe_int) pa_nil)) pe_int) pe_int))
      (pss_cons (ps_set (i := 5) sc_law.nd rfl (Or.inl rfl) (pe_op op_sub (pe_op op_mod (pe_callTy call_int1 (by rfl) T.int (by decide +kernel) (pa_cons (pv 2) pa_nil)) pe_int) pe_int))
      (pss_cons (ps_set (i := 6) sc_law.nd rfl (Or.inl rfl) (pe_op op_sub (pe_op op_mod (pe_callTy call_int1 (by rfl) T.int (by decide +kernel) (pa_cons (pe_op op_fdiv (pv 2) pe_int) pa_nil)) pe_int) pe_int))
      (C8.pss_cut (ps_if (pt_cmpR op_eq (pe_op op_mod (pe_callTy call_int1 (by rfl) T.int (by decide +kernel) (pa_cons (pe_op op_fdiv (pv 1) pe_int) pa_nil)) pe_int) pe_int (nomark _))
      (pss_cons (ps_set (i := 3) sc_law.nd rfl (Or.inl rfl) (pe_op op_sub (pe_op op_mod (pe_callTy call_int1 (by rfl) T.int (by decide +kernel) (pa_cons (pe_op op_fdiv (pv 1) pe_int) pa_nil)) pe_int) pe_int))
      (pss_one (ps_set (i := 5) sc_law.nd rfl (Or.inl rfl) (pe_op op_mod (pe_callTy call_int1 (by rfl) T.int (by decide +kernel) (pa_cons (pe_op op_fdiv (pv 2) pe_int) pa_nil)) pe_int))))
      pss_nil)
      (pss_cons (ps_set (i := 7) sc_law.nd rfl (Or.inl rfl) (pe_call (ok_rectangle_region T) (hr.mono (by decide)) rfl T.grectangle_region T.krectangle_region T.brectangle_region .nil pass0 (pa_cons (pv 3) (pa_cons (pv 4) (pa_cons (pv 5) (pa_cons (pv 6) pa_nil))))))
      (pss_cons (ps_if (PW.pt (pw_or (pt_cmpR op_le (pv 5) pe_int (nomark _)) (pw_or1 (pt_cmpR op_le (pv 6) pe_int (nomark _)))))
      (pss_one (ps_ret (pe_and (pe_cmpR (op_eqD hr.units) (pv 7) (pe_lst pa_nil) (nomark _)) (pe_and (pe_cmpR (op_eqD hr.units) (pe_call (ok_rectangles T) (hr.mono (by decide)) rfl T.grectangles T.krectangles T.brectangles .nil pass0 (pa_cons (pv 7) pa_nil)) (pe_lst pa_nil) (nomark _)) (pe_one (pe_cmpR op_is_bl (pe_call (ok_has_square T) (hr.mono (by decide)) rfl T.ghas_square T.khas_square T.bhas_square .nil pass0 (pa_cons (pv 7) (pa_cons (pv 3) (pa_cons (pv 4) pa_nil)))) pe_bl (nomark _)))))))
      pss_nil)
      (pss_cons (ps_if (PW.pt (pw_or (pt_cmpR (op_neD hr.units) (pv 7) (pe_lst (pa_cons (pe_tup (pa_cons (pv 4) (pa_cons (pe_op op_add (pv 4) (pv 6)) (pa_cons (pe_tup (pa_cons (pe_tup (pa_cons (pv 3) (pa_cons (pe_op op_add (pv 3) (pv 5)) pa_nil))) pa_nil)) pa_nil)))) pa_nil)) (nomark _)) (pw_or1 (pt_cmpR (op_neD hr.units) (pe_call (ok_rectangles T) (hr.mono (by decide)) rfl T.grectangles T.krectangles T.brectangles .nil pass0 (pa_cons (pv 7) pa_nil)) (pe_lst (pa_cons (pe_tup (pa_cons (pv 3) (pa_cons (pv 4) (pa_cons (pv 5) (pa_cons (pv 6) pa_nil))))) pa_nil)) (nomark _)))))
      (pss_one (ps_ret pe_bl))
      pss_nil)
      (pss_cons (ps_for PassesOwn.never rfl (pi_list (pe_lst (pa_cons (pe_op op_sub (pv 3) pe_int) (pa_cons (pv 3) (pa_cons (pe_op op_sub (pe_op op_add (pv 3) (pv 5)) pe_int) (pa_cons (pe_op op_add (pv 3) (pv 5)) pa_nil)))))) (pg_name (i := 8) sc_law.nd rfl (Or.inl rfl))
      (pss_one (ps_for PassesOwn.never rfl (pi_list (pe_lst (pa_cons (pe_op op_sub (pv 4) pe_int) (pa_cons (pv 4) (pa_cons (pe_op op_sub (pe_op op_add (pv 4) (pv 6)) pe_int) (pa_cons (pe_op op_add (pv 4) (pv 6)) pa_nil)))))) (pg_name (i := 9) sc_law.nd rfl (Or.inl rfl))
      (C8.pss_cut (ps_set (i := 10) sc_law.nd rfl (Or.inl rfl) (pe_and (pe_chain op_le op_lt (pv 3) (pv 8) (pe_op op_add (pv 3) (pv 5))) (pe_one (pe_chain op_le op_lt (pv 4) (pv 9) (pe_op op_add (pv 4) (pv 6))))))
      (pss_one (ps_if (pt_cmpR op_ne (pe_call (ok_has_square T) (hr.mono (by decide)) rfl T.ghas_square T.khas_square T.bhas_square .nil pass0 (pa_cons (pv 7) (pa_cons (pv 8) (pa_cons (pv 9) pa_nil)))) (pv 10) (nomark _))
      (pss_one (ps_ret pe_bl))
      pss_nil))))))
      (pss_one (ps_ret pe_bl))))))))))))), ?_⟩
    refine ⟨_, rfl, l, ns, 0, rfl, hS, _, rfl, l, ns, 1, rfl, hS, ?_⟩
    generalize lawRow ns 0 = row
    generalize lawRow ns 1 = more
    walk_at "rd"
    refine ⟨fun σ' H' => ∃ x y wd ht : Int, σ' = [some (.ref l), some (.int row), some (.int more), some (.int x), some (.int y), some (.int wd), some (.int ht), none, none, none, none] ∧ H' = H, ?_, ?_⟩
    · walk_at "rd"
      refine iteEq (fun h => ?_) (fun h => ?_)
      · walk_at "rd"
        exact ⟨_, _, _, _, rfl, rfl⟩
      · exact ⟨_, _, _, _, rfl, rfl⟩
    rintro σ' H' ⟨x, y, wd, ht, rfl, rfl⟩
    refine ⟨_, rfl, _, rfl, _, rfl, _, rfl, x, y, wd, ht, H', rfl, Same.refl _, fun v U H1 x1 dv => ?_⟩
    have hd1 := dv.to x1.vh
    refine ⟨_, rfl, _, _, rfl, rfl, _, rfl, ?_⟩
    have small : (wd ≤ 0 ∨ ht ≤ 0) → rectReg x y wd ht = [] := fun c => by unfold rectReg; exact if_pos c
    have done0 : ∀ (t : TE), t = tAndV (tOp (rEqD K) (tVar 7) (tLst tNil)) (tAndV (tOp (rEqD K) (tCall (sp_rectangles K) [] E0 (tCons (tVar 7) tNil)) (tLst tNil)) (tOp (fun x y H Q => ∃ a b, x = .bl a ∧ y = .bl b ∧ Q (.bl (decide (a = b))) H) (tCall (sp_has_square K) [] E0 (tCons (tVar 7) (tCons (tVar 3) (tCons (tVar 4) tNil)))) (tC (.bl false)))) →
        (wd ≤ 0 ∨ ht ≤ 0) → t [some (.ref l), some (.int row), some (.int more), some (.int x), some (.int y), some (.int wd), some (.int ht), some v, none, none, none] H1 Q := by
      rintro t rfl c
      rw [small c] at hd1
      refine ⟨_, rfl, by decide, fun p hp => ?_⟩
      have s2 : Same H1 (upd H1 p (.lst [])) := same_upd hp
      refine ⟨_, _, hd1.to s2, .lst (SqL.of upd_same) .nil, (sh_reg _).shaped, (sh_reg []).shaped, _, rfl, if_t (sh_reg []).self ?_⟩
      refine ⟨_, rfl, _, [], _, rfl, Same.refl _, hd1.to s2, by decide, by decide, fun v2 U2 H2 x2 dv2 => ⟨by decide, fun p2 hp2 => ?_⟩⟩
      have s3 : Same H2 (upd H2 p2 (.lst [])) := same_upd hp2
      refine ⟨_, _, (dv2.to x2.vh).to s3, .lst (SqL.of upd_same) .nil, (sh_reg []).shaped, (sh_reg []).shaped, _, rfl, if_t (sh_reg []).self ?_⟩
      refine ⟨_, rfl, _, rfl, _, rfl, _, [], _, _, rfl, ((hd1.to s2).to x2.hh).to s3, (fun b hb => by cases hb), fun H3 s4 => ⟨_, _, rfl, rfl, ?_⟩⟩
      exact q H3
    refine iteP (fun h => ?_) (fun h => ?_)
    · exact if_t rfl (done0 _ rfl (Or.inl h))
    refine ⟨_, rfl, _, _, rfl, rfl, _, rfl, iteP (fun h2 => ?_) (fun h2 => ?_)⟩
    · exact done0 _ rfl (Or.inr h2)
    have hw : ¬ (wd ≤ 0 ∨ ht ≤ 0) := by omega
    have er : rectReg x y wd ht = [(y, y + ht, [(x, x + wd)])] := by unfold rectReg; exact if_neg hw
    -- region != [(y, y + height, ((x, x + width),))]
    refine ⟨_, rfl, _, rfl, _, rfl, _, rfl, _, _, rfl, rfl, _, rfl, _, rfl, _, rfl, _, _, rfl, rfl, len_line (by show 2 ≤ 100000; decide), fun p1 n1 => ⟨len_line (by show 1 ≤ 100000; decide), fun p2 n2 => ⟨len_line (by show 3 ≤ 100000; decide), fun p3 n3 => ⟨len_line (by show 1 ≤ 100000; decide), fun p4 n4 => ?_⟩⟩⟩⟩
    have e1 := Ext.new (o := .tup [.int x, .int (x + wd)]) (Same.refl H1) n1
    have e2 := e1.trans (Ext.new (o := .tup [.ref p1]) e1.vh n2)
    have e3 := e2.trans (Ext.new (o := .tup [.int y, .int (y + ht), .ref p2]) e2.vh n3)
    have e4 := e3.trans (Ext.new (o := .lst [.ref p3]) e3.vh n4)
    have t2 := same_upd (o := .tup [.ref p1]) n2
    have t3 := same_upd (o := .tup [.int y, .int (y + ht), .ref p2]) n3
    have t4 := same_upd (o := .lst [.ref p3]) n4
    have dl : Dp K _ (.ref p4) (regD [(y, y + ht, [(x, x + wd)])]) :=
      .lst (SqL.of upd_same) (.cons (.to (mk_band (b := (y, y + ht, [(x, x + wd)])) (ss := [.ref p1]) (SqT.of upd_same) (t3.sqt (SqT.of upd_same)) (.cons ((mk_span (s := (x, x + wd)) (SqT.of upd_same)).to (t2.trans t3)) .nil)) t4) .nil)
    rw [er] at hd1
    refine ⟨_, _, hd1.to e4.hh, dl, (sh_reg _).shaped, (sh_reg _).shaped, _, rfl, if_f (by rw [(sh_reg _).self]; rfl) ?_⟩
    -- rectangles(region) != [(x, y, width, height)]
    refine ⟨_, rfl, _, [(y, y + ht, [(x, x + wd)])], _, rfl, Same.refl _, hd1.to e4.hh, by show 1 < 90000; decide, by show 1 < 90000; decide, fun v2 U2 H2 x2 dv2 => ?_⟩
    refine ⟨_, rfl, _, rfl, _, rfl, _, rfl, len_line (by show 4 ≤ 100000; decide), fun p5 n5 => ⟨len_line (by show 1 ≤ 100000; decide), fun p6 n6 => ?_⟩⟩
    have t5 := same_upd (o := .tup [.int x, .int y, .int wd, .int ht]) n5
    have t6 := same_upd (o := .lst [.ref p5]) n6
    have erd : rectsD [(y, y + ht, [(x, x + wd)])] = .list [.tuple [.int x, .int y, .int wd, .int ht]] := by
      show PyData.list [.tuple [.int x, .int y, .int (x + wd - x), .int (y + ht - y)]] = _
      rw [show x + wd - x = wd by omega, show y + ht - y = ht by omega]
    rw [erd] at dv2
    have shr : Sh 2 (.list [.tuple [.int x, .int y, .int wd, .int ht]]) := sh_list fun d hd => by
      simp only [List.mem_cons, List.not_mem_nil, or_false] at hd
      subst hd
      refine sh_tuple fun d hd => ?_
      simp only [List.mem_cons, List.not_mem_nil, or_false] at hd
      rcases hd with rfl | rfl | rfl | rfl <;> exact sh_int _
    refine ⟨_, _, ((dv2.to x2.vh).to t5).to t6, .lst (SqL.of upd_same) (.cons (.to (.tup (SqT.of upd_same) (.cons (.int _) (.cons (.int _) (.cons (.int _) (.cons (.int _) .nil))))) t6) .nil), shr.shaped, shr.shaped, _, rfl, if_f (by rw [shr.self]; rfl) ?_⟩
    have hd6 := ((hd1.to e4.hh).to x2.hh).to (t5.trans t6)
    clear dv2 dl
    generalize upd (upd H2 p5 (.tup [.int x, .int y, .int wd, .int ht])) p6 (.lst [.ref p5]) = H6 at hd6 ⊢
    -- the loops
    refine ⟨_, rfl, _, _, rfl, rfl, _, rfl, _, rfl, _, rfl, _, _, rfl, rfl, _, _, rfl, rfl, _, rfl, _, rfl, _, _, rfl, rfl, len_line (by show 4 ≤ 100000; decide), fun pa na => ?_⟩
    refine ⟨pa, rfl, ⟨_, SqL.of upd_same⟩, for_list (K := K) (a := pa) (xs := [.int (x - 1), .int x, .int (x + wd - 1), .int (x + wd)])
      (fun i σ H' => ∃ v8 v9 v10 : Option V, σ = [some (.ref l), some (.int row), some (.int more), some (.int x), some (.int y), some (.int wd), some (.int ht), some v, v8, v9, v10] ∧ Same H6 H' ∧ H' pa = some (.lst [.int (x - 1), .int x, .int (x + wd - 1), .int (x + wd)]))
      ⟨_, _, _, rfl, same_upd na, upd_same⟩ (fun i σ H' _ ⟨_, _, _, _, _, e⟩ => SqL.of e) ?_ ?_⟩
    · rintro i xa σ H7 hi ⟨v8, v9, v10, rfl, s7, e7⟩
      obtain ⟨a, rfl⟩ : ∃ z, xa = V.int z := by
        have hm := List.mem_of_getElem? hi
        simp only [List.mem_cons, List.not_mem_nil, or_false] at hm
        rcases hm with h | h | h | h <;> exact ⟨_, h⟩
      refine ⟨_, rfl, _, _, rfl, rfl, _, rfl, _, rfl, _, rfl, _, _, rfl, rfl, _, _, rfl, rfl, _, rfl, _, rfl, _, _, rfl, rfl, len_line (by show 4 ≤ 100000; decide), fun pb nb => ?_⟩
      refine ⟨pb, rfl, ⟨_, SqL.of upd_same⟩, for_list (K := K) (a := pb) (xs := [.int (y - 1), .int y, .int (y + ht - 1), .int (y + ht)])
        (fun i σ H' => ∃ v9 v10 : Option V, σ = [some (.ref l), some (.int row), some (.int more), some (.int x), some (.int y), some (.int wd), some (.int ht), some v, some (.int a), v9, v10] ∧ Same H6 H' ∧ H' pa = some (.lst [.int (x - 1), .int x, .int (x + wd - 1), .int (x + wd)]) ∧ H' pb = some (.lst [.int (y - 1), .int y, .int (y + ht - 1), .int (y + ht)]))
        ⟨_, _, rfl, s7.trans (same_upd nb), by rw [upd_ne (ne_of_none e7 nb)]; exact e7, upd_same⟩ (fun i σ H' _ ⟨_, _, _, _, _, e⟩ => SqL.of e) ?_ ?_⟩
      · rintro j xb σ H8 hj ⟨v9, v10, rfl, s8, e8, e9⟩
        obtain ⟨b, rfl⟩ : ∃ z, xb = V.int z := by
          have hm := List.mem_of_getElem? hj
          simp only [List.mem_cons, List.not_mem_nil, or_false] at hm
          rcases hm with h | h | h | h <;> exact ⟨_, h⟩
        refine ⟨fun σ' H' => σ' = [some (.ref l), some (.int row), some (.int more), some (.int x), some (.int y), some (.int wd), some (.int ht), some v, some (.int a), some (.int b), some (.bl (decide ((x ≤ a ∧ a < x + wd) ∧ y ≤ b ∧ b < y + ht)))] ∧ H' = H8, ?_, ?_⟩
        · have setd : ∀ (c : Bool), c = decide ((x ≤ a ∧ a < x + wd) ∧ y ≤ b ∧ b < y + ht) → ([some (.ref l), some (.int row), some (.int more), some (.int x), some (.int y), some (.int wd), some (.int ht), some v, some (.int a), some (.int b), some (.bl c)] : St) = [some (.ref l), some (.int row), some (.int more), some (.int x), some (.int y), some (.int wd), some (.int ht), some v, some (.int a), some (.int b), some (.bl (decide ((x ≤ a ∧ a < x + wd) ∧ y ≤ b ∧ b < y + ht)))] := fun c e => by rw [e]
          refine ⟨_, rfl, _, rfl, _, _, rfl, rfl, _, rfl, iteP (fun c1 => ?_) (fun c1 => ?_)⟩
          · refine ⟨_, rfl, _, rfl, _, _, rfl, rfl, _, _, rfl, rfl, _, rfl, iteP (fun c2 => ?_) (fun c2 => ?_)⟩
            · refine ⟨_, rfl, _, rfl, _, _, rfl, rfl, _, rfl, iteP (fun c3 => ?_) (fun c3 => ?_)⟩
              · refine ⟨_, rfl, _, rfl, _, _, rfl, rfl, _, _, rfl, rfl, setd _ ?_, rfl⟩
                by_cases c4 : b < y + ht
                · rw [decide_eq_true c4, decide_eq_true ⟨⟨c1, c2⟩, c3, c4⟩]
                · rw [decide_eq_false c4, decide_eq_false fun z => c4 z.2.2]
              · exact ⟨setd _ (decide_eq_false fun z => c3 z.2.1).symm, rfl⟩
            · exact ⟨setd _ (decide_eq_false fun z => c2 z.1.2).symm, rfl⟩
          · exact ⟨_, rfl, if_f rfl ⟨setd _ (decide_eq_false fun z => c1 z.1.1).symm, rfl⟩⟩
        rintro σ' H' ⟨rfl, rfl⟩
        refine ⟨_, rfl, _, rfl, _, rfl, v, [(y, y + ht, [(x, x + wd)])], a, b, rfl, hd6.to s8, (fun b hb => by simp only [List.mem_cons, List.not_mem_nil, or_false] at hb; subst hb; show 1 < 100000; decide), fun H9 s9 => ?_⟩
        rw [← er, hasSq_rect hw]
        refine ⟨_, rfl, rfl, _, rfl, if_f ?_ ⟨_, _, rfl, s8.trans s9, s9 _ _ e8, s9 _ _ e9⟩⟩
        rw [decide_eq_true rfl]; rfl
      · rintro σ H8 ⟨v9, v10, rfl, s8, e8, e9⟩
        exact ⟨_, _, _, rfl, s8, e8⟩
    · rintro σ H7 _
      exact q H7
end
theorem all_mk {K : PySem.W.Frag} {h : Heap} {mg : Str → Option Value} {fa : Addr} (X : K.In h) (G : h.Ns mainGlobals mg) (hfa : mg "law" = some (.ref fa))
    {frectangle_region : Addr} {od1 an1 : Option Addr} {sl1 : Array (Option Value)} {oc1 kV1 dc1 pm1 cd1 ct1 : Value}
    {frectangles : Addr} {od2 an2 : Option Addr} {sl2 : Array (Option Value)} {oc2 kV2 dc2 pm2 cd2 ct2 : Value}
    {fhas_square : Addr} {od3 an3 : Option Addr} {sl3 : Array (Option Value)} {oc3 kV3 dc3 pm3 cd3 ct3 : Value}
    {f_law_cell : Addr} {od4 an4 : Option Addr} {sl4 : Array (Option Value)} {oc4 kV4 dc4 pm4 cd4 ct4 : Value}
    {f_law_row : Addr} {od5 an5 : Option Addr} {sl5 : Array (Option Value)} {oc5 kV5 dc5 pm5 cd5 ct5 : Value}
    {flaw : Addr} {od6 an6 : Option Addr} {sl6 : Array (Option Value)} {oc6 kV6 dc6 pm6 cd6 ct6 : Value}
    (a1 : PySem.W.nsIn K mainGlobals "rectangle_region" = some (some (.ref frectangle_region)))
    (l1 : K.lookup frectangle_region = some ⟨oc1, od1, .func (PySem.W.fnOf "rectangle_region" "rectangle_region" (defArgs s_rectangle_region) (defBody s_rectangle_region) (defScope s_rectangle_region) .none kV1 dc1 pm1 an1 cd1 ct1), sl1⟩) (c1 : PySem.W.codeIn K cd1 "rectangle_region" = true) (k1 : PySem.W.keepIn K (.ref frectangle_region) = true)
    (a2 : PySem.W.nsIn K mainGlobals "rectangles" = some (some (.ref frectangles)))
    (l2 : K.lookup frectangles = some ⟨oc2, od2, .func (PySem.W.fnOf "rectangles" "rectangles" (defArgs s_rectangles) (defBody s_rectangles) (defScope s_rectangles) .none kV2 dc2 pm2 an2 cd2 ct2), sl2⟩) (c2 : PySem.W.codeIn K cd2 "rectangles" = true) (k2 : PySem.W.keepIn K (.ref frectangles) = true)
    (a3 : PySem.W.nsIn K mainGlobals "has_square" = some (some (.ref fhas_square)))
    (l3 : K.lookup fhas_square = some ⟨oc3, od3, .func (PySem.W.fnOf "has_square" "has_square" (defArgs s_has_square) (defBody s_has_square) (defScope s_has_square) .none kV3 dc3 pm3 an3 cd3 ct3), sl3⟩) (c3 : PySem.W.codeIn K cd3 "has_square" = true) (k3 : PySem.W.keepIn K (.ref fhas_square) = true)
    (a4 : PySem.W.nsIn K mainGlobals "_law_cell" = some (some (.ref f_law_cell)))
    (l4 : K.lookup f_law_cell = some ⟨oc4, od4, .func (PySem.W.fnOf "_law_cell" "_law_cell" (defArgs s__law_cell) (defBody s__law_cell) (defScope s__law_cell) .none kV4 dc4 pm4 an4 cd4 ct4), sl4⟩) (c4 : PySem.W.codeIn K cd4 "_law_cell" = true) (k4 : PySem.W.keepIn K (.ref f_law_cell) = true)
    (a5 : PySem.W.nsIn K mainGlobals "_law_row" = some (some (.ref f_law_row)))
    (l5 : K.lookup f_law_row = some ⟨oc5, od5, .func (PySem.W.fnOf "_law_row" "_law_row" (defArgs s__law_row) (defBody s__law_row) (defScope s__law_row) .none kV5 dc5 pm5 an5 cd5 ct5), sl5⟩) (c5 : PySem.W.codeIn K cd5 "_law_row" = true) (k5 : PySem.W.keepIn K (.ref f_law_row) = true)
    (a6 : PySem.W.nsIn K mainGlobals "law" = some (some (.ref flaw)))
    (l6 : K.lookup flaw = some ⟨oc6, od6, .func (PySem.W.fnOf "law" "law" (defArgs s_law) (defBody s_law) (defScope s_law) .none kV6 dc6 pm6 an6 cd6 ct6), sl6⟩) (c6 : PySem.W.codeIn K cd6 "law" = true) (k6 : PySem.W.keepIn K (.ref flaw) = true)
    (z_any : PySem.W.nsIn K mainGlobals "any" = some none)
    (z_int : PySem.W.nsIn K mainGlobals "int" = some none)
    (z_len : PySem.W.nsIn K mainGlobals "len" = some none)
    : ∃ A : Adr, A.flaw = fa ∧ Txt K mg A ∧ (∀ (s : Shared) (v : Value), BindsTo s A.dlaw ⟨[v], []⟩ [("script", v)]) := by
  have e := hfa.symm.trans (PySem.W.mg_of X G a6)
  cases e
  have F1 := fun_mk (st := s_rectangle_region) l1 c1 k1
  have b1 := F1.binds (ps := ["x", "y", "width", "height"]) fun _ _ _ _ _ _ us hl => match us, hl with | [_, _, _, _], _ => rfl
  have F2 := fun_mk (st := s_rectangles) l2 c2 k2
  have b2 := F2.binds (ps := ["region"]) fun _ _ _ _ _ _ us hl => match us, hl with | [_], _ => rfl
  have F3 := fun_mk (st := s_has_square) l3 c3 k3
  have b3 := F3.binds (ps := ["region", "x", "y"]) fun _ _ _ _ _ _ us hl => match us, hl with | [_, _, _], _ => rfl
  have F4 := fun_mk (st := s__law_cell) l4 c4 k4
  have b4 := F4.binds (ps := ["script", "k"]) fun _ _ _ _ _ _ us hl => match us, hl with | [_, _], _ => rfl
  have F5 := fun_mk (st := s__law_row) l5 c5 k5
  have b5 := F5.binds (ps := ["script", "k"]) fun _ _ _ _ _ _ us hl => match us, hl with | [_, _], _ => rfl
  have F6 := fun_mk (st := s_law) l6 c6 k6
  have b6 := F6.binds (ps := ["script"]) fun _ _ _ _ _ _ us hl => match us, hl with | [_], _ => rfl
  refine ⟨{ frectangle_region := frectangle_region, drectangle_region := (PySem.W.fnOf "rectangle_region" "rectangle_region" (defArgs s_rectangle_region) (defBody s_rectangle_region) (defScope s_rectangle_region) .none kV1 dc1 pm1 an1 cd1 ct1), frectangles := frectangles, drectangles := (PySem.W.fnOf "rectangles" "rectangles" (defArgs s_rectangles) (defBody s_rectangles) (defScope s_rectangles) .none kV2 dc2 pm2 an2 cd2 ct2), fhas_square := fhas_square, dhas_square := (PySem.W.fnOf "has_square" "has_square" (defArgs s_has_square) (defBody s_has_square) (defScope s_has_square) .none kV3 dc3 pm3 an3 cd3 ct3), f_law_cell := f_law_cell, d_law_cell := (PySem.W.fnOf "_law_cell" "_law_cell" (defArgs s__law_cell) (defBody s__law_cell) (defScope s__law_cell) .none kV4 dc4 pm4 an4 cd4 ct4), f_law_row := f_law_row, d_law_row := (PySem.W.fnOf "_law_row" "_law_row" (defArgs s__law_row) (defBody s__law_row) (defScope s__law_row) .none kV5 dc5 pm5 an5 cd5 ct5), flaw := fa, dlaw := (PySem.W.fnOf "law" "law" (defArgs s_law) (defBody s_law) (defScope s_law) .none kV6 dc6 pm6 an6 cd6 ct6) }, rfl, { Frectangle_region := F1, brectangle_region := b1, grectangle_region := PySem.W.mg_of X G a1, krectangle_region := k1, Frectangles := F2, brectangles := b2, grectangles := PySem.W.mg_of X G a2, krectangles := k2, Fhas_square := F3, bhas_square := b3, ghas_square := PySem.W.mg_of X G a3, khas_square := k3, F_law_cell := F4, b_law_cell := b4, g_law_cell := PySem.W.mg_of X G a4, k_law_cell := k4, F_law_row := F5, b_law_row := b5, g_law_row := PySem.W.mg_of X G a5, k_law_row := k5, Flaw := F6, blaw := b6, glaw := PySem.W.mg_of X G a6, klaw := k6, any := PySem.W.mg_none_of X G z_any, int := PySem.W.mg_none_of X G z_int, len := PySem.W.mg_none_of X G z_len }, fun s v => .of_eq rfl⟩
theorem walk {l : PySem.W.OpenLaw} {q : Program} {loose : List Str} {XP : (Str → Option Value) → Heap → Prop} {YP : World → Heap → Prop} {d : DefRec} {K : Params → PySem.W.Frag} (hn : l.most = some 63) (hdf : d.params.defaults = [])
    (hY : ∀ (w : World) (h : Heap), YP w h → (K w.params).In h)
    (F : ∀ (w : World) (mg : Str → Option Value) (fa : Addr) (h : Heap), (K w.params).In h → h.Ns mainGlobals mg → mg d.name = some (.ref fa) →
      ∃ A : Adr, A.flaw = fa ∧ Txt (K w.params) mg A ∧ (∀ (s : Shared) (v : Value), BindsTo s A.dlaw ⟨[v], []⟩ [("script", v)])) :
    PySem.W.WalkO q loose XP YP l.row.toRowW d [] (fun f vs => PySem.call f vs) :=
  L2.walk_of (n := 63) (k := 3) (x := "script") (CX := fun _ => CX0) (sp := fun w => sp_law (K w.params)) hn (by decide) hdf ⟨rfl, by decide, by decide⟩ hY (fun w mg fa h X G hfa => by
    obtain ⟨A, rfl, T, b⟩ := F w mg fa h X G hfa
    exact ⟨A.dlaw, b, fun base _ _ => ok_law T⟩) (fun _ _ a ns hl _ hS => ⟨a, ns, rfl, hS, hl, fun _ => rfl⟩) fun _ _ _ _ _ z => z
end My
open PySem PySem.W PyProof.Rows
set_option maxRecDepth 100000 in
set_option maxHeartbeats 0 in
theorem PySem.Challenge.cw_sillwatch_k19_rectangle_region_holds : PySem.Challenge.rw_sillwatch_k19_rectangle_region.Holds := by
  w_on; o_law; k_head; (case hw => w_witness2)
  k_fill
  refine My.walk (l := PySem.Challenge.rw_sillwatch_k19_rectangle_region) rfl rfl (fun w h Y => PySem.W.kIn_of Y) ?F
  case F =>
    intro w mg fa h KX G hmg
    refine' My.all_mk KX G hmg ?a1 ?l1 ?c1 ?k1 ?a2 ?l2 ?c2 ?k2 ?a3 ?l3 ?c3 ?k3 ?a4 ?l4 ?c4 ?k4 ?a5 ?l5 ?c5 ?k5 ?a6 ?l6 ?c6 ?k6 ?z_any ?z_int ?z_len
    (case a1 => k_is)
    (case l1 => k_is)
    (case c1 => k_is)
    (case k1 => k_is)
    (case a2 => k_is)
    (case l2 => k_is)
    (case c2 => k_is)
    (case k2 => k_is)
    (case a3 => k_is)
    (case l3 => k_is)
    (case c3 => k_is)
    (case k3 => k_is)
    (case a4 => k_is)
    (case l4 => k_is)
    (case c4 => k_is)
    (case k4 => k_is)
    (case a5 => k_is)
    (case l5 => k_is)
    (case c5 => k_is)
    (case k5 => k_is)
    (case a6 => k_is)
    (case l6 => k_is)
    (case c6 => k_is)
    (case k6 => k_is)
    (case z_any => k_is)
    (case z_int => k_is)
    (case z_len => k_is)
