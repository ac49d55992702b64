import PyProof.Rows.All
import Wide.All
import OpenK.AllK
import Wide.FinOn
import HandS.ForMost
import HandS.Deep
import HandS.IsInst
import HandS.StrMore
import HandS.Walk
import KE.LtData
import KE.SortData
import HandS.Zip
import HandS.TupAny
import HandS.Flow
import PySem.Challenge.RW_lastfords_k00_pairs_rules_and_floods
set_option Elab.async false
set_option linter.all false
set_option maxRecDepth 100000
set_option maxHeartbeats 4000000
namespace Lf
open PySem PySem.Spec PyProof.Rows L2

/-! ## heaps: all but one address -/
def hide (u : Addr) (H : Hp) : Hp := fun b => if b = u then none else H b
theorem hide_ne {u b : Addr} {H : Hp} (h : b ≠ u) : hide u H b = H b := if_neg h
theorem hide_at {u : Addr} {H : Hp} : hide u H u = none := if_pos rfl
theorem hide_sub {u : Addr} {H : Hp} : Same (hide u H) H := fun b o e => by
  unfold hide at e
  split at e
  · cases e
  · exact e
theorem hide_in {u b : Addr} {H : Hp} {o : HO} (h : b ≠ u) (e : H b = some o) : hide u H b = some o := (hide_ne h).trans e
theorem hide_mono {u : Addr} {H H' : Hp} (e : Same H H') : Same (hide u H) (hide u H') := fun b o q => by
  unfold hide at q ⊢
  split at q
  · cases q
  · rename_i h
    rw [if_neg h]
    exact e _ _ q
theorem hide_upd {u : Addr} {H : Hp} {o : HO} : hide u (upd H u o) = hide u H := by
  funext b
  unfold hide upd
  split <;> rfl
theorem same_new {H : Hp} {p : Addr} (h : H p = none) (o : HO) : Same H (upd H p o) := fun b u q => by
  rw [upd_ne (ne_of_none q h)]
  exact q
/-- an object that was made meanwhile is written: what stood at first is as it was -/
theorem same_upd {H H1 : Hp} {p : Addr} (e : Same H H1) (h : H p = none) (o : HO) : Same H (upd H1 p o) := fun b u q => by
  rw [upd_ne (ne_of_none q h)]
  exact e _ _ q
theorem same_seqT {K : PySem.W.Frag} {H H' : Hp} {a : Addr} {xs : List V} (e : Same H H') (h : SqT K H a xs) : SqT K H' a xs := by
  rcases h with (h | ⟨o, h⟩) | h
  · exact .inl (.inl (e _ _ h))
  · exact .inl (.inr ⟨o, e _ _ h⟩)
  · exact .inr h

/-! ## data that stand in the heap -/
mutual
inductive Dd (H : Hp) : V → PyData → Prop
  | non : Dd H .non .none
  | bl (b : Bool) : Dd H (.bl b) (.bool b)
  | int (i : Int) : Dd H (.int i) (.int i)
  | str (x : Str) : Dd H (.str x) (.str x)
  | lst {a : Addr} {xs : List V} {ds : List PyData} : H a = some (.lst xs) → DdAll H xs ds → Dd H (.ref a) (.list ds)
  | tup {a : Addr} {xs : List V} {ds : List PyData} : H a = some (.tup xs) → DdAll H xs ds → Dd H (.ref a) (.tuple ds)
inductive DdAll (H : Hp) : List V → List PyData → Prop
  | nil : DdAll H [] []
  | cons {v : V} {vs : List V} {d : PyData} {ds : List PyData} : Dd H v d → DdAll H vs ds → DdAll H (v :: vs) (d :: ds)
end
mutual
theorem Dd.mono {H H' : Hp} (e : Same H H') : ∀ {d : PyData} {v : V}, Dd H v d → Dd H' v d
  | .none, _, h => by cases h; exact .non
  | .bool _, _, h => by cases h; exact .bl _
  | .int _, _, h => by cases h; exact .int _
  | .str _, _, h => by cases h; exact .str _
  | .list ds, _, h => by
    cases h with
    | lst h1 h2 => exact .lst (e _ _ h1) (DdAll.mono e h2)
  | .tuple ds, _, h => by
    cases h with
    | tup h1 h2 => exact .tup (e _ _ h1) (DdAll.mono e h2)
  | .dict _, _, h => by cases h
theorem DdAll.mono {H H' : Hp} (e : Same H H') : ∀ {ds : List PyData} {vs : List V}, DdAll H vs ds → DdAll H' vs ds
  | [], _, h => by cases h; exact .nil
  | _ :: _, _, h => by
    cases h with
    | cons h1 h2 => exact .cons (Dd.mono e h1) (DdAll.mono e h2)
end
mutual
theorem Dd.dp {K : PySem.W.Frag} {H : Hp} : ∀ {d : PyData} {v : V}, Dd H v d → Dp K H v d
  | .none, _, h => by cases h; exact .non
  | .bool _, _, h => by cases h; exact .bl _
  | .int _, _, h => by cases h; exact .int _
  | .str _, _, h => by cases h; exact .str _
  | .list ds, _, h => by
    cases h with
    | lst h1 h2 => exact .lst (.of h1) (DdAll.dp h2)
  | .tuple ds, _, h => by
    cases h with
    | tup h1 h2 => exact .tup (.of h1) (DdAll.dp h2)
  | .dict _, _, h => by cases h
theorem DdAll.dp {K : PySem.W.Frag} {H : Hp} : ∀ {ds : List PyData} {vs : List V}, DdAll H vs ds → DpAll K H vs ds
  | [], _, h => by cases h; exact .nil
  | _ :: _, _, h => by
    cases h with
    | cons h1 h2 => exact .cons (Dd.dp h1) (DdAll.dp h2)
end
theorem DdAll.length {H : Hp} : ∀ {ds : List PyData} {vs : List V}, DdAll H vs ds → vs.length = ds.length
  | [], _, h => by cases h; rfl
  | _ :: _, _, h => by
    cases h with
    | cons h1 h2 => exact congrArg (· + 1) (DdAll.length h2)
theorem DdAll.get {H : Hp} : ∀ {ds : List PyData} {vs : List V} {i : Nat} {v : V}, DdAll H vs ds → vs[i]? = some v → ∃ d, ds[i]? = some d ∧ Dd H v d
  | [], _, i, v, h, e => by cases h; simp at e
  | d :: ds, _, 0, v, h, e => by
    cases h with
    | cons h1 h2 =>
      simp at e
      subst e
      exact ⟨d, rfl, h1⟩
  | d :: ds, _, i + 1, v, h, e => by
    cases h with
    | cons h1 h2 =>
      simp at e
      obtain ⟨d', q1, q2⟩ := DdAll.get h2 e
      exact ⟨d', by simpa using q1, q2⟩
theorem DdAll.get' {H : Hp} {ds : List PyData} {vs : List V} {i : Nat} {d : PyData} (h : DdAll H vs ds) (e : ds[i]? = some d) : ∃ v, vs[i]? = some v ∧ Dd H v d := by
  have hl := h.length
  obtain ⟨hi, _⟩ := List.getElem?_eq_some_iff.mp e
  have hv : vs[i]? = some vs[i] := List.getElem?_eq_getElem (by omega)
  obtain ⟨d', q1, q2⟩ := h.get hv
  rw [e] at q1
  cases q1
  exact ⟨_, hv, q2⟩
theorem DdAll.append {H : Hp} : ∀ {ds es : List PyData} {vs ws : List V}, DdAll H vs ds → DdAll H ws es → DdAll H (vs ++ ws) (ds ++ es)
  | [], _, _, _, h, k => by cases h; exact k
  | _ :: _, _, _, _, h, k => by
    cases h with
    | cons h1 h2 => exact .cons h1 (DdAll.append h2 k)
theorem DdAll.take {H : Hp} : ∀ {ds : List PyData} {vs : List V} (n : Nat), DdAll H vs ds → DdAll H (vs.take n) (ds.take n)
  | _, _, 0, _ => .nil
  | [], _, n + 1, h => by cases h; exact .nil
  | _ :: _, _, n + 1, h => by
    cases h with
    | cons h1 h2 => exact .cons h1 (DdAll.take n h2)
theorem DdAll.drop {H : Hp} : ∀ {ds : List PyData} {vs : List V} (n : Nat), DdAll H vs ds → DdAll H (vs.drop n) (ds.drop n)
  | _, _, 0, h => h
  | [], _, n + 1, h => by cases h; exact .nil
  | _ :: _, _, n + 1, h => by
    cases h with
    | cons h1 h2 => exact DdAll.drop n h2
theorem DdAll.of_mem {H : Hp} {vs : List V} (h : ∀ v ∈ vs, ∃ d, Dd H v d) : ∃ ds, DdAll H vs ds := by
  induction vs with
  | nil => exact ⟨[], .nil⟩
  | cons v vs ih =>
    obtain ⟨d, hd⟩ := h v List.mem_cons_self
    obtain ⟨ds, hds⟩ := ih fun w hw => h w (List.mem_cons_of_mem _ hw)
    exact ⟨d :: ds, .cons hd hds⟩

/-! ## data of bounded depth and size -/
def wf : Nat → PyData → Bool
  | _, .none => true
  | _, .bool _ => true
  | _, .int _ => true
  | _, .str x => PySem.PyData.canLay0 (.str x) && decide (x.length ≤ 1000)
  | n + 1, .list ds => decide (ds.length ≤ 1000) && ds.all (wf n)
  | n + 1, .tuple ds => decide (ds.length ≤ 1000) && ds.all (wf n)
  | _, _ => false
theorem wf_str {n : Nat} {x : Str} (h : wf n (.str x) = true) : PySem.PyData.canLay0 (.str x) = true ∧ x.length ≤ 1000 := by
  cases n <;> (simp only [wf, Bool.and_eq_true, decide_eq_true_eq] at h; exact h)
theorem wf_tuple {n : Nat} {ds : List PyData} (h : wf n (.tuple ds) = true) : ∃ m, n = m + 1 ∧ ds.length ≤ 1000 ∧ ∀ d ∈ ds, wf m d = true := by
  cases n with
  | zero => simp [wf] at h
  | succ m =>
    simp only [wf, Bool.and_eq_true, decide_eq_true_eq, List.all_eq_true] at h
    exact ⟨m, rfl, h.1, h.2⟩
theorem wf_list {n : Nat} {ds : List PyData} (h : wf n (.list ds) = true) : ∃ m, n = m + 1 ∧ ds.length ≤ 1000 ∧ ∀ d ∈ ds, wf m d = true := by
  cases n with
  | zero => simp [wf] at h
  | succ m =>
    simp only [wf, Bool.and_eq_true, decide_eq_true_eq, List.all_eq_true] at h
    exact ⟨m, rfl, h.1, h.2⟩
theorem depthAll_le {m : Nat} : ∀ {ds : List PyData}, (∀ d ∈ ds, d.depth ≤ m) → PyData.depthAll ds ≤ m
  | [], _ => by simp [PyData.depthAll]
  | d :: ds, h => by
    have h1 := h d List.mem_cons_self
    have h2 := depthAll_le (ds := ds) fun e he => h e (List.mem_cons_of_mem _ he)
    simp only [PyData.depthAll]
    omega
theorem layAll_of : ∀ {ds : List PyData}, (∀ d ∈ ds, d.canLay0 = true) → PyData.canLayAll0 ds = true
  | [], _ => by simp [PyData.canLayAll0]
  | d :: ds, h => by
    simp only [PyData.canLayAll0, Bool.and_eq_true]
    exact ⟨h d List.mem_cons_self, layAll_of fun e he => h e (List.mem_cons_of_mem _ he)⟩
theorem wf_lay : ∀ (n : Nat) (d : PyData), wf n d = true → d.canLay0 = true ∧ d.depth ≤ n
  | n, .none, _ => by simp [PyData.canLay0, PyData.depth]
  | n, .bool _, _ => by simp [PyData.canLay0, PyData.depth]
  | n, .int _, _ => by simp [PyData.canLay0, PyData.depth]
  | n, .str x, h => ⟨(wf_str h).1, by simp [PyData.depth]⟩
  | 0, .list _, h => by simp [wf] at h
  | 0, .tuple _, h => by simp [wf] at h
  | n + 1, .list ds, h => by
    obtain ⟨m, e, _, h2⟩ := wf_list h
    cases e
    have r : ∀ d ∈ ds, d.canLay0 = true ∧ d.depth ≤ n := fun d hd => wf_lay n d (h2 d hd)
    have q := depthAll_le fun d hd => (r d hd).2
    refine ⟨?_, ?_⟩
    · simp only [PyData.canLay0]
      exact layAll_of fun d hd => (r d hd).1
    · simp only [PyData.depth]
      omega
  | n + 1, .tuple ds, h => by
    obtain ⟨m, e, _, h2⟩ := wf_tuple h
    cases e
    have r : ∀ d ∈ ds, d.canLay0 = true ∧ d.depth ≤ n := fun d hd => wf_lay n d (h2 d hd)
    have q := depthAll_le fun d hd => (r d hd).2
    refine ⟨?_, ?_⟩
    · simp only [PyData.canLay0]
      exact layAll_of fun d hd => (r d hd).1
    · simp only [PyData.depth]
      omega
  | 0, .dict _, h => by simp [wf] at h
  | n + 1, .dict _, h => by simp [wf] at h
theorem wf_shaped {n : Nat} {d : PyData} (h : wf n d = true) (hn : n ≤ 60) : SeqAt.shaped d = true := by
  obtain ⟨h1, h2⟩ := wf_lay n d h
  show (d.canLay0 && decide (d.depth ≤ 64)) = true
  rw [Bool.and_eq_true]
  exact ⟨h1, decide_eq_true (by omega)⟩
theorem wf_mono : ∀ (n m : Nat) (d : PyData), n ≤ m → wf n d = true → wf m d = true
  | n, m, .none, _, _ => by cases m <;> rfl
  | n, m, .bool _, _, _ => by cases m <;> rfl
  | n, m, .int _, _, _ => by cases m <;> rfl
  | n, m, .str x, _, h => by
    obtain ⟨a, b⟩ := wf_str h
    cases m <;> simp only [wf, Bool.and_eq_true, decide_eq_true_eq] <;> exact ⟨a, b⟩
  | n, m, .list ds, hm, h => by
    obtain ⟨k, e, h1, h2⟩ := wf_list h
    cases m with
    | zero => omega
    | succ m =>
      simp only [wf, Bool.and_eq_true, decide_eq_true_eq, List.all_eq_true]
      exact ⟨h1, fun d hd => wf_mono k m d (by omega) (h2 d hd)⟩
  | n, m, .tuple ds, hm, h => by
    obtain ⟨k, e, h1, h2⟩ := wf_tuple h
    cases m with
    | zero => omega
    | succ m =>
      simp only [wf, Bool.and_eq_true, decide_eq_true_eq, List.all_eq_true]
      exact ⟨h1, fun d hd => wf_mono k m d (by omega) (h2 d hd)⟩
  | n, m, .dict _, _, h => by cases n <;> simp [wf] at h
termination_by n m d => n
decreasing_by all_goals omega

/-! ## the kind of a datum -/
def kindD : PyData → String
  | .none => "NoneType" | .bool _ => "bool" | .int _ => "int" | .str _ => "str" | .list _ => "list" | .tuple _ => "tuple" | .dict _ => "dict"
theorem Dd.ty {K : PySem.W.Frag} {H : Hp} {v : V} {d : PyData} (h : Dd H v d) : TyX K H v (.type (kindD d)) := by
  cases h with
  | non => exact .base .non
  | bl b => exact .base (.bl b)
  | int i => exact .base (.int i)
  | str x => exact .base (.str x)
  | lst h1 _ => exact .base (.lst h1)
  | tup h1 _ => exact .base (.tup h1)
def isTup : PyData → Bool | .tuple _ => true | _ => false
def isLst : PyData → Bool | .list _ => true | _ => false
def isStr : PyData → Bool | .str _ => true | _ => false
def isBl : PyData → Bool | .bool _ => true | _ => false
def isInt : PyData → Bool | .bool _ => true | .int _ => true | _ => false
def noDict : PyData → Bool | .dict _ => false | _ => true
theorem Dd.noDict {H : Hp} {v : V} {d : PyData} (h : Dd H v d) : noDict d = true := by cases h <;> rfl
theorem kit_tup {K : PySem.W.Frag} (d : PyData) : PySem.W.kitOne K (.type (kindD d)) (.type "tuple") = some (isTup d) := kit_ty (by cases d <;> (dsimp only [kindD, isTup]; decide +kernel))
theorem kit_lst {K : PySem.W.Frag} (d : PyData) : PySem.W.kitOne K (.type (kindD d)) (.type "list") = some (isLst d) := kit_ty (by cases d <;> (dsimp only [kindD, isLst]; decide +kernel))
theorem kit_str {K : PySem.W.Frag} (d : PyData) : PySem.W.kitOne K (.type (kindD d)) (.type "str") = some (isStr d) := kit_ty (by cases d <;> (dsimp only [kindD, isStr]; decide +kernel))
theorem kit_bl {K : PySem.W.Frag} (d : PyData) : PySem.W.kitOne K (.type (kindD d)) (.type "bool") = some (isBl d) := kit_ty (by cases d <;> (dsimp only [kindD, isBl]; decide +kernel))
theorem kit_int {K : PySem.W.Frag} (d : PyData) : PySem.W.kitOne K (.type (kindD d)) (.type "int") = some (isInt d) := kit_ty (by cases d <;> (dsimp only [kindD, isInt]; decide +kernel))

/-! ## operators on data -/
section
variable {X : Cx}
def rLtD (K : PySem.W.Frag) : R2 := fun x y H Q => ∃ d e, Dp K H x d ∧ Dp K H y e ∧ PySem.W.alike d e = true ∧ d ≠ .none ∧ d.depth ≤ 64 ∧ Q (.bl (PySem.W.dataLt d e)) H
theorem op_ltD (hu : X.A.units + 64 < cLine) : OpR X (compareOp .Lt) (rLtD X.K) := by
  intro pins s σ H x y v u Q I rx ry h
  obtain ⟨d, e, hd, he, al, hn, dep, q⟩ := h
  obtain ⟨as, r1⟩ := Dp.reads I d x v hd rx
  obtain ⟨bs, r2⟩ := Dp.reads I e y u he ry
  have R := PySem.W.rcLt_alike d e X.A s v u as bs r1 r2 al hn (by
    have := Nat.min_le_left d.depth e.depth
    omega)
  have z : wpAny (model X.prog X.w) X.A (compareOp .Lt v u) (EP X pins σ Q) X.xe s := R X.prog X.w X.xe (EP X pins σ Q) ⟨.bl _, H, I, rfl, q⟩
  exact z
def rNotInTD (K : PySem.W.Frag) : R2 := fun x y H Q => ∃ d ds, Dp K H x d ∧ Dp K H y (.tuple ds) ∧ SeqAt.shaped d = true ∧ SeqAt.shaped (.tuple ds) = true ∧ Q (.bl (!ds.any fun z => PyData.eqv z d)) H
theorem op_notInTD (hu : X.A.units + 65 < cLine) : OpR X (compareOp .NotIn) (rNotInTD X.K) := by
  intro pins s σ H x y v u Q I rx ry h
  obtain ⟨d, ds, hd, he, sd, se, q⟩ := h
  obtain ⟨as, r1⟩ := Dp.reads I d x v hd rx
  obtain ⟨bs, r2⟩ := Dp.reads I (.tuple ds) y u he ry
  exact SeqAt.notIn_tuple_reads r2 r1 (SeqAt.canLay_of_shaped se) (SeqAt.canLay_of_shaped sd) (room_in_shaped sd hu) ⟨.bl _, H, I, rfl, q⟩
end
theorem each_of {H : Hp} {K : PySem.W.Frag} {h : Heap} {F : V → PyData → Prop} {G : Value → PyData → Prop} (k : ∀ v d u, F v d → RelV v u → G u d) : ∀ {vs : List V} {ds : List PyData} {us : List Value},
    Paired F vs ds → Vals vs us → PySem.W.EachIs G us ds
  | [], _, _, h, r => by cases h; cases r; exact .nil
  | _ :: _, _, _, h, r => by
    cases h with
    | cons h1 h2 =>
      cases r with
      | cons r1 r2 => exact .cons (k _ _ _ h1 r1) (each_of (H := H) (K := K) (h := h) k h2 r2)
end Lf

set_option maxHeartbeats 4000000
namespace Lf
open PySem PySem.Spec PyProof.Rows L2

/-! ## the text by places -/
def topS (i : Nat) : Stmt := PySem.Challenge.pw_lastfords_k00_pairs_rules_and_floods.main.body.getD i (.Pass ⟨0, 0, 0, 0⟩)
/-- built-in names that the program leaves alone -/
structure Bts (mg : Str → Option Value) : Prop where
  len : mg "len" = none
  isi : mg "isinstance" = none
  tuple : mg "tuple" = none
  list : mg "list" = none
  str : mg "str" = none
  bool : mg "bool" = none
  int : mg "int" = none
  all : mg "all" = none
  zip : mg "zip" = none
  range : mg "range" = none
  sorted : mg "sorted" = none
  abs : mg "abs" = none
  min : mg "min" = none
  max : mg "max" = none
  enum : mg "enumerate" = none
/-- a def of the text with its promise, as a caller sees it -/
structure Has (P : Program) (w : World) (K : PySem.W.Frag) (mg : Str → Option Value) (base : Heap) (k : Nat) (x : Str) (ps : List Str) (sp : Sp) : Prop where
  ex : ∃ (f : Addr) (fd : FuncData), FnOk P w K mg base CX0 k f fd ps sp ∧ mg x = some (.ref f) ∧ PySem.W.keepIn K (.ref f) = true ∧ Binds K fd ps []
section
variable {X : Cx} {k : Nat} {x : Str} {ps : List Str} {sp : Sp} {e : Expr} {es : List Expr} {t : TA} {p pos : Pos}
theorem pe_has (G : Has X.prog X.w X.K X.mg X.base k x ps sp) (hr : Room k X.A) (ha : PA X (e :: es) t) (hg : Gl X x := by rfl) (hdb : (x == ("__debug__" : Str)) = false := by decide)
    (he : starEach (e :: es) X.env = (false, eval e X.env) :: starEach es X.env := by rfl) (hpl : (backTo pos (starEach es X.env)).any (·.1) = false := by rfl) :
    PE X (.Call (.Name x p) (e :: es) [] pos) (tCall sp [] E0 t) := by
  obtain ⟨f, fd, ok, m, kp, b⟩ := G.ex
  exact pe_call ok hr hg m kp b .nil pass0 ha hdb he hpl
end

/-! ## names -/
def letter (c : Nat) : Bool := decide (97 ≤ c ∧ c ≤ 122)
def nameS (x : Str) : Bool := decide (1 ≤ x.length ∧ x.length ≤ 8) && x.cps.toList.all letter
def nameD : PyData → Bool | .str x => nameS x | _ => false
theorem alpha_small : ∀ c : Fin 128, (Unicode.isAlpha c.1 && !(Unicode.isUpper c.1 || Unicode.isTitle c.1)) = letter c.1 := by decide +kernel
theorem lower_letter : ∀ c : Fin 128, letter c.1 = true → Unicode.isLower c.1 = true := by decide +kernel
theorem letter_small {c : Nat} (h : letter c = true) : c < 128 := by
  unfold letter at h
  have := of_decide_eq_true h
  omega
theorem letters_of (l : List Nat) (hn : l ≠ []) : (l.all (fun c => decide (c < 128)) && l.all Unicode.isAlpha && (l.any Unicode.isLower && !l.any fun c => Unicode.isUpper c || Unicode.isTitle c)) = l.all letter := by
  by_cases h : l.all letter = true
  · rw [h]
    have h' := List.all_eq_true.mp h
    have s : ∀ c ∈ l, c < 128 := fun c hc => letter_small (h' c hc)
    have g : ∀ c ∈ l, (Unicode.isAlpha c && !(Unicode.isUpper c || Unicode.isTitle c)) = true := fun c hc => (alpha_small ⟨c, s c hc⟩).trans (h' c hc)
    have e1 : l.all (fun c => decide (c < 128)) = true := List.all_eq_true.mpr fun c hc => decide_eq_true (s c hc)
    have e2 : l.all Unicode.isAlpha = true := List.all_eq_true.mpr fun c hc => (Bool.and_eq_true_iff.mp (g c hc)).1
    have e3 : (l.any fun c => Unicode.isUpper c || Unicode.isTitle c) = false := by
      cases e : (l.any fun c => Unicode.isUpper c || Unicode.isTitle c) with
      | false => rfl
      | true =>
        obtain ⟨c, hc, q⟩ := List.any_eq_true.mp e
        have z := (Bool.and_eq_true_iff.mp (g c hc)).2
        rw [q] at z
        cases z
    have e4 : l.any Unicode.isLower = true := by
      cases l with
      | nil => exact absurd rfl hn
      | cons c r => exact List.any_eq_true.mpr ⟨c, List.mem_cons_self, lower_letter ⟨c, s c List.mem_cons_self⟩ (h' c List.mem_cons_self)⟩
    rw [e1, e2, e3, e4]
    rfl
  · have h0 : l.all letter = false := Bool.eq_false_iff.mpr h
    rw [h0]
    cases e : (l.all (fun c => decide (c < 128)) && l.all Unicode.isAlpha && (l.any Unicode.isLower && !l.any fun c => Unicode.isUpper c || Unicode.isTitle c)) with
    | false => rfl
    | true =>
      simp only [Bool.and_eq_true] at e
      obtain ⟨⟨e1, e2⟩, _, e3⟩ := e
      refine absurd (List.all_eq_true.mpr fun c hc => ?_) h
      have hs : c < 128 := of_decide_eq_true (List.all_eq_true.mp e1 c hc)
      rw [← alpha_small ⟨c, hs⟩]
      show (Unicode.isAlpha c && !(Unicode.isUpper c || Unicode.isTitle c)) = true
      rw [List.all_eq_true.mp e2 c hc]
      cases q : (Unicode.isUpper c || Unicode.isTitle c) with
      | false => rfl
      | true =>
        have z : (l.any fun c => Unicode.isUpper c || Unicode.isTitle c) = true := List.any_eq_true.mpr ⟨c, hc, q⟩
        rw [z] at e3
        cases e3
theorem arr_all {p : Nat → Bool} (a : Array Nat) : a.all p = a.toList.all p := by
  rw [← Array.all_toList]
theorem arr_any {p : Nat → Bool} (a : Array Nat) : a.any p = a.toList.any p := by
  rw [← Array.any_toList]
theorem len_list (x : Str) : x.cps.toList.length = x.length := rfl
/-- what is_name reckons, by the text's own methods -/
theorem name_by (x : Str) : nameS x = (if 1 ≤ x.length then (if x.length ≤ 8 then (if Txt.isascii x = true then (if Txt.isalpha x = true then Txt.islower x else false) else false) else false) else false) := by
  unfold nameS
  by_cases h1 : 1 ≤ x.length
  · by_cases h8 : x.length ≤ 8
    · rw [if_pos h1, if_pos h8, decide_eq_true ⟨h1, h8⟩, Bool.true_and]
      have hn : x.cps.toList ≠ [] := by
        intro e
        have := len_list x
        rw [e] at this
        simp at this
        omega
      rw [← letters_of x.cps.toList hn]
      have a1 : Txt.isascii x = x.cps.toList.all (fun c => decide (c < 128)) := arr_all x.cps
      have a2 : Txt.isalpha x = x.cps.toList.all Unicode.isAlpha := by
        show (decide (x.length > 0) && x.cps.all Unicode.isAlpha) = _
        rw [decide_eq_true (show x.length > 0 by omega), Bool.true_and, arr_all]
      have a3 : Txt.islower x = (x.cps.toList.any Unicode.isLower && !x.cps.toList.any fun c => Unicode.isUpper c || Unicode.isTitle c) := by
        show (x.cps.any Unicode.isLower && !x.cps.any fun c => Unicode.isUpper c || Unicode.isTitle c) = _
        rw [arr_any, arr_any]
      rw [a1, a2, a3]
      cases (x.cps.toList.all (fun c => decide (c < 128))) <;> cases (x.cps.toList.all Unicode.isAlpha) <;> simp
    · rw [if_pos h1, if_neg h8, decide_eq_false (fun h => h8 h.2)]
      rfl
  · rw [if_neg h1, decide_eq_false (fun h => h1 h.1)]
    rfl

/-! ## the mirror of what is asked -/
def ltD (a b : PyData) : Bool := PySem.W.dataLt a b
def twoD : PyData → Bool
  | .tuple [a, b] => nameD a && nameD b && ltD a b
  | _ => false
def ascD : List PyData → Bool
  | a :: b :: r => ltD a b && ascD (b :: r)
  | _ => true
def twosD : PyData → Bool
  | .tuple ds => ds.all twoD && ascD ds
  | _ => false
def lawD : PyData → Bool
  | .tuple [.tuple ws, g] => twosD (.tuple ws) && !ws.isEmpty && twoD g && !(ws.any fun z => PyData.eqv z g)
  | _ => false
def tideD : PyData → Bool
  | .tuple [n, j, p] => nameD n && twosD j && twosD p
  | _ => false

/-- a promise: of one datum, the answer p of it; all stands as it was -/
def spD (p : PyData → Bool) : Sp := fun vs H Q _ => ∃ v d n, vs = [v] ∧ Dd H v d ∧ wf n d = true ∧ n ≤ 40 ∧ ∀ H', Same H H' → Q (.bl (p d)) H'
theorem spD_len {p : PyData → Bool} {ps : List Str} (h : ps.length = 1) : ∀ vs H Q E, spD p vs H Q E → vs.length = ps.length := by
  intro vs H Q E ⟨v, d, n, e, _⟩
  rw [e, h]
  rfl
theorem small {n : Nat} (h : n ≤ 1000) : n ≤ sizeLine := Nat.le_of_lt (small1000 h)

section
variable {P : Program} {w : World} {K : PySem.W.Frag} {mg : Str → Option Value} {base : Heap} {f : Addr} {fd : FuncData}
/-! ## is_name -/
theorem scName : FnScope ["thing"] ["thing"] (defScope (topS 2)) := ⟨rfl, rfl, rfl, by decide +kernel, rfl, by decide +kernel, by decide +kernel⟩
theorem ok_name (B : Bts mg) (F : Fun K "is_name" "is_name" (topS 2) f fd) : FnOk P w K mg base CX0 1 f fd ["thing"] (spD nameD) := by
  refine F.ok scName (spD_len rfl) (fun cdv A outer s H vs Q E hr h => ?_)
  obtain ⟨v, d, n, rfl, hd, hw, hn, q⟩ := h
  refine ⟨_, pss_one (ps_ret (pe_and (pe_callB call_isi (by rfl) B.isi (by decide +kernel) (pa_cons (pv 0) (pa_cons (pe_bltn (v := .ty "str") (by rfl) B.str (by decide +kernel) rfl) pa_nil)))
    (pe_and (pe_chain op_le op_le pe_int (pe_callB call_len_str (by rfl) B.len PySem.boot_len (pa_cons (pv 0) pa_nil)) pe_int)
    (pe_and (pe_bm0 PySem.F.plainAttrs_str PySem.F.slot_str_isascii PySem.F.type_str_isascii mt_isascii (pv 0))
    (pe_and (pe_bm0 PySem.F.plainAttrs_str PySem.F.slot_str_isalpha PySem.F.type_str_isalpha mt_isalpha (pv 0))
    (pe_one (pe_bm0 PySem.F.plainAttrs_str PySem.F.slot_str_islower PySem.F.type_str_islower mt_islower (pv 0)))))))), ?_⟩
  refine ⟨_, rfl, _, _, _, _, _, rfl, .ty "str", hd.ty, kit_str d, _, rfl, ?_⟩
  have q' := q H (.refl H)
  cases hd with
  | str x =>
    obtain ⟨_, hx⟩ := wf_str hw
    have e := name_by x
    have q2 : Q (.bl (nameS x)) H := q'
    refine iteT ?_
    refine ⟨_, rfl, _, rfl, small hx, _, _, rfl, rfl, _, rfl, ?_⟩
    refine ite2 (fun c => ?_) (fun c => ?_)
    · have c1 : (1 : Int) ≤ (x.length : Int) := of_decide_eq_true c
      refine ⟨_, _, rfl, rfl, _, rfl, ?_⟩
      refine ite2 (fun c => ?_) (fun c => ?_)
      · have c2 : (x.length : Int) ≤ (8 : Int) := of_decide_eq_true c
        rw [if_pos (show 1 ≤ x.length by omega), if_pos (show x.length ≤ 8 by omega)] at e
        refine ⟨_, rfl, rfl, _, rfl, rfl, trivial, _, rfl, ?_⟩
        refine ite2 (fun c => ?_) (fun c => ?_)
        · rw [if_pos c] at e
          refine ⟨_, rfl, rfl, _, rfl, rfl, trivial, _, rfl, ?_⟩
          refine ite2 (fun c => ?_) (fun c => ?_)
          · rw [if_pos c] at e
            refine ⟨_, rfl, rfl, _, rfl, rfl, trivial, ?_⟩
            rw [← e]
            exact q2
          · rw [if_neg c] at e
            rw [← e]
            exact q2
        · rw [if_neg c] at e
          rw [← e]
          exact q2
      · have c2 : ¬ (x.length : Int) ≤ (8 : Int) := of_decide_eq_false (Bool.eq_false_iff.mpr c)
        rw [if_pos (show 1 ≤ x.length by omega), if_neg (show ¬ x.length ≤ 8 by omega)] at e
        rw [← e]
        exact q2
    · have c1 : ¬ (1 : Int) ≤ (x.length : Int) := of_decide_eq_false (Bool.eq_false_iff.mpr c)
      rw [if_neg (show ¬ 1 ≤ x.length by omega)] at e
      refine ⟨_, rfl, ?_⟩
      refine iteF ?_
      rw [← e]
      exact q2
  | non => exact iteF q'
  | bl b => exact iteF q'
  | int i => exact iteF q'
  | lst _ _ => exact iteF q'
  | tup _ _ => exact iteF q'
end
end Lf

set_option maxHeartbeats 4000000
namespace Lf
open PySem PySem.Spec PyProof.Rows L2

/-! ## tuples cut -/
theorem sIx_one (n : Nat) : HT.sIx n 0 (some 1) = min 1 n := HT.sIx_nat n 0 1
theorem cutV_from (xs : List V) (k : Nat) : cutV xs (some (k : Int)) none = xs.drop k := by
  unfold cutV
  rw [HT.sIx_nat, HT.sIx_none]
  by_cases h : k ≤ xs.length
  · rw [Nat.min_eq_left h, List.take_of_length_le]
    rw [List.length_drop]
    exact Nat.le_refl _
  · rw [Nat.min_eq_right (by omega), List.drop_length, List.drop_eq_nil_of_le (by omega), List.take_nil]
theorem cutV_to (xs : List V) (k : Nat) : cutV xs none (some (k : Int)) = xs.take k := by
  unfold cutV
  rw [HT.sIx_nat, HT.sIx_none, List.drop_zero, Nat.sub_zero]
  by_cases h : k ≤ xs.length
  · rw [Nat.min_eq_left h]
  · rw [Nat.min_eq_right (by omega), List.take_length, List.take_of_length_le (by omega)]
theorem cutV_mid (xs : List V) (j k : Nat) (h : j ≤ xs.length) : cutV xs (some (j : Int)) (some (k : Int)) = (xs.drop j).take (k - j) := by
  unfold cutV
  rw [HT.sIx_nat, HT.sIx_nat, Nat.min_eq_left h]
  by_cases hk : k ≤ xs.length
  · rw [Nat.min_eq_left hk]
  · rw [Nat.min_eq_right (by omega), List.take_of_length_le, List.take_of_length_le] <;> rw [List.length_drop] <;> omega
theorem cutV_whole {xs : List V} {lo hi : Option Int} (h : HT.sIx xs.length 0 lo = 0 ∧ HT.sIx xs.length xs.length hi = xs.length) : cutV xs lo hi = xs := by
  unfold cutV
  rw [h.1, h.2, List.drop_zero, Nat.sub_zero, List.take_length]
/-- a tuple's slice: some tuple of the part -/
theorem cut_any {K : PySem.W.Frag} {H : Hp} {a : Addr} {xs : List V} {lo hi : Option Int} {Q : VK} (h : H a = some (.tup xs)) (q : ∀ p H', Same H H' → H' p = some (.tup (cutV xs lo hi)) → Q (.ref p) H') : rSlA K (.ref a) lo hi H Q :=
  ⟨a, xs, rfl, .of h, fun e => q a H (.refl H) (by rw [cutV_whole e]; exact h), fun _ p hp => q p _ (same_new hp _) upd_same⟩
/-- two tuples behind one another -/
theorem cat_any {K : PySem.W.Frag} {H : Hp} {a b : Addr} {xs ys : List V} {Q : VK} (h : H a = some (.tup xs)) (h' : H b = some (.tup ys)) (hz : xs.length + ys.length ≤ sizeLine) (q : ∀ p H', Same H H' → H' p = some (.tup (xs ++ ys)) → Q (.ref p) H') : rCatA K (.ref a) (.ref b) H Q :=
  ⟨a, b, xs, ys, rfl, rfl, .of h, .of h', hz, fun e => q b H (.refl H) (by rw [e]; exact h'), fun _ e => q a H (.refl H) (by rw [e, List.append_nil]; exact h), fun _ _ p hp => q p _ (same_new hp _) upd_same⟩
/-- the same as rules -/
def rSlC : V → Option Int → Option Int → Hp → VK → Prop := fun x lo hi H Q => ∃ a xs, x = .ref a ∧ H a = some (.tup xs) ∧ ∀ p H', Same H H' → H' p = some (.tup (cutV xs lo hi)) → Q (.ref p) H'
theorem sl_tupC {X : Cx} : SlR X rSlC := by
  intro pins s σ H x v vl vu lo hi sl Q I rx hs pl pu h
  obtain ⟨a, xs, rfl, hx, q⟩ := h
  have z : rSlA X.K (.ref a) lo hi H Q := cut_any hx q
  exact sl_tupA pins s σ H _ v vl vu lo hi sl Q I rx hs pl pu z
def rCatC : R2 := fun x y H Q => ∃ a b xs ys, x = .ref a ∧ y = .ref b ∧ H a = some (.tup xs) ∧ H b = some (.tup ys) ∧ xs.length + ys.length ≤ sizeLine ∧ ∀ p H', Same H H' → H' p = some (.tup (xs ++ ys)) → Q (.ref p) H'
theorem op_catC {X : Cx} : OpR X (binaryOp .Add) rCatC := by
  intro pins s σ H x y v u Q I rx ry h
  obtain ⟨a, b, xs, ys, rfl, rfl, ha, hb, hz, q⟩ := h
  have z : rCatA X.K (.ref a) (.ref b) H Q := cat_any ha hb hz q
  exact op_catA pins s σ H _ _ v u Q I rx ry z
theorem walk_zipT {K : PySem.W.Frag} {a b : Addr} {xs ys : List V} {n : Nat} (hn : n = min xs.length ys.length) : Walk (RZ.ItzT K a b) n (fun H => SqT K H a xs ∧ SqT K H b ys) (YPair (fun i => xs[i]?) (fun i => ys[i]?)) := by
  subst hn
  refine ⟨fun i _ hi q => ?_, fun _ q => ⟨xs, ys, q.1, q.2, by omega⟩, fun i H v H' _ q y => ?_⟩
  · have h1 : i < xs.length := by omega
    have h2 : i < ys.length := by omega
    exact ⟨xs, ys, xs[i], ys[i], q.1, q.2, by simp [h1], by simp [h2]⟩
  · obtain ⟨T, x, z, h1, h2, h3, h4, h5⟩ := y
    exact ⟨T, x, z, h1, h2, h3, h4 xs q.1, h5 ys q.2⟩

theorem yes {σ : L2.St} {H : Hp} {Q : Bool → Hp → Prop} (h : Q true H) : tYes σ H Q := h

/-! ## pairs of names can be compared -/
theorem name_str {d : PyData} (h : nameD d = true) : ∃ x, d = .str x := by
  cases d with
  | str x => exact ⟨x, rfl⟩
  | _ => cases h
theorem two_tup {d : PyData} (h : twoD d = true) : ∃ x y, d = .tuple [.str x, .str y] := by
  unfold twoD at h
  split at h
  · rename_i a b
    simp only [Bool.and_eq_true] at h
    obtain ⟨x, rfl⟩ := name_str h.1.1
    obtain ⟨y, rfl⟩ := name_str h.1.2
    exact ⟨x, y, rfl⟩
  · cases h
theorem alike_strs (x y z w : Str) : PySem.W.alike (.tuple [.str x, .str y]) (.tuple [.str z, .str w]) = true := by
  simp [PySem.W.alike, PySem.W.alikeAll]
theorem alike_two {d e : PyData} (h : twoD d = true) (h' : twoD e = true) : PySem.W.alike d e = true ∧ d ≠ .none ∧ d.depth ≤ 64 := by
  obtain ⟨x, y, rfl⟩ := two_tup h
  obtain ⟨z, w, rfl⟩ := two_tup h'
  refine ⟨alike_strs x y z w, by simp, ?_⟩
  simp [PyData.depth, PyData.depthAll]
theorem asc_zip : ∀ ds : List PyData, ascD ds = (List.zipWith ltD ds (ds.drop 1)).all id
  | [] => rfl
  | [_] => rfl
  | a :: b :: r => by
    have ih := asc_zip (b :: r)
    show (ltD a b && ascD (b :: r)) = (ltD a b && (List.zipWith ltD (b :: r) r).all id)
    rw [ih]
    rfl

/-- a promise of a tuple of pairs of names -/
def spAsc : Sp := fun vs H Q _ => ∃ v ds n, vs = [v] ∧ Dd H v (.tuple ds) ∧ wf n (.tuple ds) = true ∧ (∀ d ∈ ds, twoD d = true) ∧ ∀ H', Same H H' → Q (.bl (ascD ds)) H'
section
variable {P : Program} {w : World} {K : PySem.W.Frag} {mg : Str → Option Value} {base : Heap} {f : Addr} {fd : FuncData}
theorem scAsc : FnScope ["values", "one", "other"] ["values"] (defScope (topS 1)) := ⟨rfl, rfl, rfl, by decide +kernel, rfl, by decide +kernel, by decide +kernel⟩
theorem ok_asc (B : Bts mg) (F : Fun K "is_ascending" "is_ascending" (topS 1) f fd) : FnOk P w K mg base CX0 1 f fd ["values"] spAsc := by
  refine F.ok scAsc (fun vs H Q E h => ?_) (fun cdv A outer s H vs Q E hr h => ?_)
  · obtain ⟨v, ds, n, rfl, _⟩ := h
    rfl
  obtain ⟨v, ds, n, rfl, hd, hw, ht, q⟩ := h
  refine ⟨_, pss_one (ps_ret (pe_callB (cr_all rfl) (by rfl) B.all (by decide +kernel) (pa_cons
    (pe_lc (own := [("one", 1), ("other", 2)]) rfl scAsc.nd (RZ.pi_zipA (by rfl) B.zip (pa_cons (pv 0) (pa_cons (pe_slice sl_tupC (pv 0) (po_some pe_int) po_none) pa_nil)))
      (blkOk_by (own := [("one", 1), ("other", 2)]) (N := ["values", "one", "other"]) (sc := defScope (topS 1)) (by decide +kernel))
      (fun _ _ _ _ _ => show PG _ _ (gTup K 2 (gCons (gName 1) (gCons (gName 2) gNil))) from pg_tup rfl (pgs_cons (pg_name (i := 1) scAsc.nd rfl (Or.inl rfl)) (pgs_cons (pg_name (i := 2) scAsc.nd rfl (Or.inl rfl)) pgs_nil))) (fun _ _ _ _ _ => pts_nil)
      (fun _ _ _ _ _ => pe_cmpR (show OpR _ (compareOp .Lt) (rLtD K) from op_ltD hr.units) (pv 1) (pv 2) (nomark _))) pa_nil))), ?_⟩
  obtain ⟨m, rfl, hlen, hall⟩ := wf_tuple hw
  cases hd with
  | @tup a xs _ h1 h2 =>
    have hl := h2.length
    refine ⟨_, rfl, _, rfl, 1, rfl, a, xs, rfl, h1, fun p H1 s1 hp => ?_⟩
    rw [show cutV xs (some (1 : Int)) none = xs.drop 1 from cutV_from xs 1] at hp
    have ha : H1 a = some (.tup xs) := s1 _ _ h1
    have hds : DdAll H1 xs ds := h2.mono s1
    refine ⟨a, p, xs, xs.drop 1, rfl, .inr ⟨.of ha, .of hp, fun D nD => ?_⟩⟩
    refine lc_it (walk_zipT (K := K) (xs := xs) (ys := xs.drop 1) rfl) (fun i H2 => Same H1 H2 ∧ H2 D = some (.lst (((List.zipWith ltD ds (ds.drop 1)).take i).map V.bl)))
      ⟨same_new nD _, upd_same⟩ (fun i H2 _ hP => ⟨.of (hP.1 _ _ ha), .of (hP.1 _ _ hp)⟩) (fun i x H2 H3 hi hP hY => ?_) (fun H2 hP => ?_)
    · obtain ⟨T, x1, x2, rfl, nT, rfl, e1, e2⟩ := hY
      obtain ⟨sm, hD⟩ := hP
      have hDT : D ≠ T := ne_of_none hD nT
      obtain ⟨d1, g1, k1⟩ := hds.get e1
      obtain ⟨d2, g2, k2⟩ := (hds.drop 1).get e2
      have s3 : Same H1 (upd H2 T (.tup [x1, x2])) := sm.trans (same_new nT _)
      have m1 : d1 ∈ ds := List.mem_of_getElem? g1
      have m2 : d2 ∈ ds := List.mem_of_mem_drop (List.mem_of_getElem? g2)
      obtain ⟨al, nn, dep⟩ := alike_two (ht d1 m1) (ht d2 m2)
      refine ⟨T, _, rfl, .of upd_same, rfl, _, _, rfl, _, _, rfl, rfl, rfl, ?_⟩
      refine yes ?_
      rw [if_pos rfl]
      refine ⟨_, rfl, _, rfl, d1, d2, (k1.mono s3).dp, (k2.mono s3).dp, al, nn, dep, ?_⟩
      refine ⟨_, by rw [upd_ne hDT]; exact hD, ?_, ?_, ?_⟩
      · rw [List.length_map, List.length_take, List.length_zipWith]
        exact small1000 (by omega)
      · refine same_upd s3 ?_ _
        exact nD
      · rw [upd_same]
        have e : (List.zipWith ltD ds (ds.drop 1))[i]? = some (ltD d1 d2) := by
          rw [List.getElem?_zipWith, g1, g2]
        rw [List.take_add_one, e, Option.toList_some, List.map_append]
        rfl
    · obtain ⟨sm, hD⟩ := hP
      rw [List.take_of_length_le (by rw [List.length_zipWith, List.length_drop, List.length_drop]; omega)] at hD
      refine ⟨D, _, rfl, .of hD, ?_⟩
      rw [← asc_zip]
      exact q H2 (s1.trans sm)
/-! ## is_pair, is_pairs -/
theorem scPair : FnScope ["thing"] ["thing"] (defScope (topS 4)) := ⟨rfl, rfl, rfl, by decide +kernel, rfl, by decide +kernel, by decide +kernel⟩
theorem ok_pair (B : Bts mg) (gN : Has P w K mg base 1 "is_name" ["thing"] (spD nameD)) (F : Fun K "is_pair" "is_pair" (topS 4) f fd) : FnOk P w K mg base CX0 2 f fd ["thing"] (spD twoD) := by
  refine F.ok scPair (spD_len rfl) (fun cdv A outer s H vs Q E hr h => ?_)
  obtain ⟨v, d, n, rfl, hd, hw, hn, q⟩ := h
  refine ⟨_, pss_one (ps_ret (pe_and (pe_callB call_isi (by rfl) B.isi (by decide +kernel) (pa_cons (pv 0) (pa_cons (pe_bltn (v := .ty "tuple") (by rfl) B.tuple (by decide +kernel) rfl) pa_nil)))
    (pe_and (pe_cmpR op_eq (pe_callB call_len_seq (by rfl) B.len PySem.boot_len (pa_cons (pv 0) pa_nil)) pe_int (nomark _))
    (pe_and (pe_has gN hr (pa_cons (pe_ix ix_tup (pv 0) pe_int (fun _ _ => rfl)) pa_nil))
    (pe_and (pe_has gN hr (pa_cons (pe_ix ix_tup (pv 0) pe_int (fun _ _ => rfl)) pa_nil))
    (pe_one (pe_cmpR op_lt_str (pe_ix ix_tup (pv 0) pe_int (fun _ _ => rfl)) (pe_ix ix_tup (pv 0) pe_int (fun _ _ => rfl)) (nomark _)))))))), ?_⟩
  refine ⟨_, rfl, _, _, _, _, _, rfl, .ty "tuple", hd.ty, kit_tup d, _, rfl, ?_⟩
  have q' := q H (.refl H)
  cases hd with
  | @tup a xs ds h1 h2 =>
    obtain ⟨m, rfl, hlen, hall⟩ := wf_tuple hw
    have hl := h2.length
    refine iteT ?_
    refine ⟨_, rfl, _, _, rfl, .inr (.of h1), rfl, _, rfl, ?_⟩
    refine ite2 (fun c => ?_) (fun c => ?_)
    · have c' : V.int (xs.length : Int) = V.int 2 := of_decide_eq_true c
      have c2 : ds.length = 2 := by
        injection c' with c'
        omega
      match ds, c2, h2, hall, q, q' with
      | [d1, d2], _, h2, hall, q, q' =>
        cases h2 with
        | @cons v1 vs1 _ _ k1 t1 =>
          cases t1 with
          | @cons v2 vs2 _ _ k2 t2 =>
            cases t2
            have w1 := hall d1 (by simp)
            have w2 := hall d2 (by simp)
            refine ⟨_, rfl, _, _, _, _, rfl, rfl, .of h1, atI_nat (j := 0) rfl, v1, d1, m, rfl, k1, w1, by omega, fun H1 s1 => ?_⟩
            refine ⟨_, rfl, ?_⟩
            cases e1 : nameD d1 with
            | false =>
              have z : twoD (.tuple [d1, d2]) = false := by simp [twoD, e1]
              refine iteF ?_
              rw [← z]
              exact q H1 s1
            | true =>
              refine iteT ?_
              refine ⟨_, rfl, _, _, _, _, rfl, rfl, .of (s1 _ _ h1), atI_nat (j := 1) rfl, v2, d2, m, rfl, k2.mono s1, w2, by omega, fun H2 s2 => ?_⟩
              refine ⟨_, rfl, ?_⟩
              cases e2 : nameD d2 with
              | false =>
                have z : twoD (.tuple [d1, d2]) = false := by simp [twoD, e1, e2]
                refine iteF ?_
                rw [← z]
                exact q H2 (s1.trans s2)
              | true =>
                refine iteT ?_
                obtain ⟨x, rfl⟩ := name_str e1
                obtain ⟨y, rfl⟩ := name_str e2
                cases k1
                cases k2
                have ha := s2 _ _ (s1 _ _ h1)
                refine ⟨_, rfl, _, _, _, _, rfl, rfl, .of ha, atI_nat (j := 0) rfl, _, rfl, _, _, _, _, rfl, rfl, .of ha, atI_nat (j := 1) rfl, x, y, rfl, rfl, ?_⟩
                have z : twoD (.tuple [.str x, .str y]) = decide (x.cps.toList < y.cps.toList) := by
                  show (nameD (.str x) && nameD (.str y) && PySem.W.dataLt (.str x) (.str y)) = _
                  rw [e1, e2, PySem.W.dataLt_str]
                  rfl
                rw [← z]
                exact q H2 (s1.trans s2)
    · have c' : ¬ V.int (xs.length : Int) = V.int 2 := of_decide_eq_false (Bool.eq_false_iff.mpr c)
      have c2 : ds.length ≠ 2 := fun e => c' (by rw [hl, e]; rfl)
      have z : twoD (.tuple ds) = false := by
        unfold twoD
        split
        · rename_i a b e
          cases e
          exact absurd rfl c2
        · rfl
      rw [← z]
      exact q'
  | non => exact iteF q'
  | bl b => exact iteF q'
  | int i => exact iteF q'
  | lst _ _ => exact iteF q'
  | str _ => exact iteF q'
end
end Lf

set_option maxHeartbeats 4000000
namespace Lf
open PySem PySem.Spec PyProof.Rows L2

/-- [p(x) for x in xs], p a test of data that leaves all as it was -/
theorem lc_test {J : It} {G : Hp → Prop} {xs : List V} {ds : List PyData} {te : TE} {vs : List Nat} {slot : Nat} {σ : L2.St} {H : Hp} {D : Addr} {Qd : Hp → Prop} (p : PyData → Bool)
    (w : Walk J xs.length G (YAt xs)) (hG : ∀ H2, Same H H2 → G H2) (h2 : DdAll H xs ds) (nD : H D = none) (hlen : ds.length ≤ 1000)
    (hwp : ∀ v, wipe ((wipe σ vs).set slot (some v)) vs = wipe σ vs)
    (hs : ∀ v d H2 (R : VK), d ∈ ds → Dd H2 v d → Same H H2 → (∀ H3, Same H2 H3 → R (.bl (p d)) H3) → te ((wipe σ vs).set slot (some v)) H2 R)
    (hd : ∀ H2, Same H H2 → H2 D = some (.lst ((ds.map p).map V.bl)) → Qd H2) :
    ∃ W : Nat → Nat → Hp → Prop, (∃ m, W 0 m (upd H D (.lst []))) ∧ ∀ i m H, W i m H →
      (J.stop i H ∧ Qd H) ∨ (J.go i H ∧ ∃ Nx : Hp → Prop, (∀ H', Nx H' → ∃ m', m' < m ∧ W (i + 1) m' H') ∧ ∀ x H', J.yld i H x H' → gName slot x (wipe σ vs) H' fun σ2 H2 => wipe σ2 vs = wipe σ vs ∧ tYes σ2 H2 fun b H3 =>
        if b = true then te σ2 H3 fun y H4 => ∃ acc, H4 D = some (.lst acc) ∧ acc.length < sizeLine ∧ Nx (upd H4 D (.lst (acc ++ [y]))) else Nx H3) := by
  have hl := h2.length
  refine lc_it w (fun i H2 => Same H H2 ∧ H2 D = some (.lst (((ds.map p).take i).map V.bl))) ⟨same_new nD _, upd_same⟩ (fun i H2 _ hP => hG H2 hP.1) (fun i x H2 H3 hi hP hY => ?_) (fun H2 hP => ?_)
  · obtain ⟨rfl, hx⟩ := hY
    obtain ⟨sm, hD⟩ := hP
    obtain ⟨d, g1, k1⟩ := h2.get hx
    refine ⟨hwp x, yes ?_⟩
    rw [if_pos rfl]
    refine hs x d _ _ (List.mem_of_getElem? g1) (k1.mono sm) sm fun H4 s4 => ?_
    refine ⟨_, s4 _ _ hD, ?_, same_upd (sm.trans s4) nD _, ?_⟩
    · rw [List.length_map, List.length_take, List.length_map]
      exact small1000 (by omega)
    · rw [upd_same]
      have e : (ds.map p)[i]? = some (p d) := by rw [List.getElem?_map, g1] <;> rfl
      rw [List.take_add_one, e, Option.toList_some, List.map_append]
      rfl
  · obtain ⟨sm, hD⟩ := hP
    rw [List.take_of_length_le (by rw [List.length_map]; omega)] at hD
    exact hd H2 sm hD
theorem all_map {ds : List PyData} {p : PyData → Bool} : (ds.map p).all id = ds.all p := by
  rw [List.all_map]
  rfl
section
variable {P : Program} {w : World} {K : PySem.W.Frag} {mg : Str → Option Value} {base : Heap} {f : Addr} {fd : FuncData}
theorem scPairs : FnScope ["thing", "part"] ["thing"] (defScope (topS 5)) := ⟨rfl, rfl, rfl, by decide +kernel, rfl, by decide +kernel, by decide +kernel⟩
theorem ok_pairs (B : Bts mg) (gP : Has P w K mg base 2 "is_pair" ["thing"] (spD twoD)) (gA : Has P w K mg base 1 "is_ascending" ["values"] spAsc) (F : Fun K "is_pairs" "is_pairs" (topS 5) f fd) : FnOk P w K mg base CX0 3 f fd ["thing"] (spD twosD) := by
  refine F.ok scPairs (spD_len rfl) (fun cdv A outer s H vs Q E hr h => ?_)
  obtain ⟨v, d, n, rfl, hd, hw, hn, q⟩ := h
  refine ⟨_, pss_one (ps_ret (pe_and (pe_callB call_isi (by rfl) B.isi (by decide +kernel) (pa_cons (pv 0) (pa_cons (pe_bltn (v := .ty "tuple") (by rfl) B.tuple (by decide +kernel) rfl) pa_nil)))
    (pe_and (pe_callB (cr_all rfl) (by rfl) B.all (by decide +kernel) (pa_cons
      (pe_lc (own := [("part", 1)]) (g := gName 1) rfl scPairs.nd (pi_tup (pv 0))
        (blkOk_by (own := [("part", 1)]) (N := ["thing", "part"]) (sc := defScope (topS 5)) (by decide +kernel))
        (fun _ _ _ _ _ => pg_name (i := 1) scPairs.nd rfl (Or.inl rfl)) (fun _ _ _ _ _ => pts_nil)
        (fun _ _ _ _ _ => pe_has gP hr (pa_cons (pv 1) pa_nil))) pa_nil))
    (pe_one (pe_has gA (hr.mono (by decide)) (pa_cons (pv 0) pa_nil)))))), ?_⟩
  refine ⟨_, rfl, _, _, _, _, _, rfl, .ty "tuple", hd.ty, kit_tup d, _, rfl, ?_⟩
  have q' := q H (.refl H)
  cases hd with
  | @tup a xs ds h1 h2 =>
    have hd0 : Dd H (.ref a) (.tuple ds) := .tup h1 h2
    obtain ⟨m, rfl, hlen, hall⟩ := wf_tuple hw
    refine iteT ?_
    refine ⟨_, rfl, a, rfl, ⟨_, .of h1⟩, fun D nD => ?_⟩
    refine lc_test twoD (walk_tup (K := K) (a := a)) (fun H2 s2 => .of (s2 _ _ h1)) h2 nD hlen (fun v => rfl) (fun v d H2 R hm hv s2 r => ?_) (fun H2 s2 hD => ?_)
    · exact ⟨_, rfl, v, d, m, rfl, hv, hall d hm, by omega, r⟩
    · refine ⟨D, _, rfl, .of hD, ?_⟩
      rw [all_map]
      refine ⟨_, rfl, ?_⟩
      cases e : ds.all twoD with
      | false =>
        have z : twosD (.tuple ds) = false := by simp [twosD, e]
        refine iteF ?_
        rw [← z]
        exact q H2 s2
      | true =>
        refine iteT ?_
        have z : twosD (.tuple ds) = ascD ds := by simp [twosD, e]
        refine ⟨_, rfl, _, ds, m + 1, rfl, hd0.mono s2, hw, List.all_eq_true.mp e, fun H3 s3 => ?_⟩
        rw [← z]
        exact q H3 (s2.trans s3)
  | non => exact iteF q'
  | bl b => exact iteF q'
  | int i => exact iteF q'
  | lst _ _ => exact iteF q'
  | str _ => exact iteF q'

/-! ## is_rule, is_flood -/
theorem twos_tup {d : PyData} (h : twosD d = true) : ∃ ds, d = .tuple ds := by
  cases d with
  | tuple ds => exact ⟨ds, rfl⟩
  | _ => cases h
theorem law_two (w g : PyData) : lawD (.tuple [w, g]) = (match w with | .tuple ws => twosD (.tuple ws) && !ws.isEmpty && twoD g && !(ws.any fun z => PyData.eqv z g) | _ => false) := by
  cases w <;> rfl
theorem law_len {ds : List PyData} (h : ds.length ≠ 2) : lawD (.tuple ds) = false := by
  unfold lawD
  split
  · rename_i e
    cases e
    exact absurd rfl h
  · rfl
theorem scRule : FnScope ["thing"] ["thing"] (defScope (topS 6)) := ⟨rfl, rfl, rfl, by decide +kernel, rfl, by decide +kernel, by decide +kernel⟩
theorem ok_rule (B : Bts mg) (gP : Has P w K mg base 2 "is_pair" ["thing"] (spD twoD)) (gPs : Has P w K mg base 3 "is_pairs" ["thing"] (spD twosD)) (F : Fun K "is_rule" "is_rule" (topS 6) f fd) : FnOk P w K mg base CX0 4 f fd ["thing"] (spD lawD) := by
  refine F.ok scRule (spD_len rfl) (fun cdv A outer s H vs Q E hr h => ?_)
  obtain ⟨v, d, n, rfl, hd, hw, hn, q⟩ := h
  have hu65 : A.units + 3 + 65 < cLine := by
    have := hr.un
    show A.units + 3 + 65 < cLine
    have : A.units + 3 + 16 * 3 + 200 < cLine := this
    omega
  refine ⟨_, pss_one (ps_ret (pe_and (pe_callB call_isi (by rfl) B.isi (by decide +kernel) (pa_cons (pv 0) (pa_cons (pe_bltn (v := .ty "tuple") (by rfl) B.tuple (by decide +kernel) rfl) pa_nil)))
    (pe_and (pe_cmpR op_eq (pe_callB call_len_seq (by rfl) B.len PySem.boot_len (pa_cons (pv 0) pa_nil)) pe_int (nomark _))
    (pe_and (pe_has gPs hr (pa_cons (pe_ix ix_tup (pv 0) pe_int (fun _ _ => rfl)) pa_nil))
    (pe_and (pe_cmpR op_gt (pe_callB call_len_seq (by rfl) B.len PySem.boot_len (pa_cons (pe_ix ix_tup (pv 0) pe_int (fun _ _ => rfl)) pa_nil)) pe_int (nomark _))
    (pe_and (pe_has gP (hr.mono (by decide)) (pa_cons (pe_ix ix_tup (pv 0) pe_int (fun _ _ => rfl)) pa_nil))
    (pe_one (pe_cmpR (op_notInTD hu65) (pe_ix ix_tup (pv 0) pe_int (fun _ _ => rfl)) (pe_ix ix_tup (pv 0) pe_int (fun _ _ => rfl)) (by rfl))))))))), ?_⟩
  refine ⟨_, rfl, _, _, _, _, _, rfl, .ty "tuple", hd.ty, kit_tup d, _, rfl, ?_⟩
  have q' := q H (.refl H)
  cases hd with
  | @tup a xs ds h1 h2 =>
    obtain ⟨m, rfl, hlen, hall⟩ := wf_tuple hw
    have hl := h2.length
    refine iteT ?_
    refine ⟨_, rfl, _, _, rfl, .inr (.of h1), rfl, _, rfl, ?_⟩
    refine ite2 (fun c => ?_) (fun c => ?_)
    · have c' : V.int (xs.length : Int) = V.int 2 := of_decide_eq_true c
      have c2 : ds.length = 2 := by
        injection c' with c'
        omega
      match ds, c2, h2, hall, q, q' with
      | [d1, d2], _, h2, hall, q, q' =>
        cases h2 with
        | @cons v1 vs1 _ _ k1 t1 =>
          cases t1 with
          | @cons v2 vs2 _ _ k2 t2 =>
            cases t2
            have w1 := hall d1 (by simp)
            have w2 := hall d2 (by simp)
            refine ⟨_, rfl, _, _, _, _, rfl, rfl, .of h1, atI_nat (j := 0) rfl, v1, d1, m, rfl, k1, w1, by omega, fun H1 s1 => ?_⟩
            refine ⟨_, rfl, ?_⟩
            cases e1 : twosD d1 with
            | false =>
              have z : lawD (.tuple [d1, d2]) = false := by
                rw [law_two]
                cases d1 <;> first | rfl | (dsimp only; rw [e1]; rfl)
              refine iteF ?_
              rw [← z]
              exact q H1 s1
            | true =>
              obtain ⟨ws, rfl⟩ := twos_tup e1
              refine iteT ?_
              cases k1 with
              | @tup b ys _ g1 g2 =>
                have gl := g2.length
                refine ⟨_, rfl, _, _, _, _, rfl, rfl, .of (s1 _ _ h1), atI_nat (j := 0) rfl, _, _, rfl, .inr (.of (s1 _ _ g1)), _, _, rfl, rfl, _, rfl, ?_⟩
                refine ite2 (fun c => ?_) (fun c => ?_)
                · have c3 : (0 : Int) < (ys.length : Int) := of_decide_eq_true c
                  have ne : ws.isEmpty = false := by
                    cases ws with
                    | nil =>
                      simp at gl
                      rw [gl] at c3
                      simp at c3
                    | cons _ _ => rfl
                  refine ⟨_, rfl, _, _, _, _, rfl, rfl, .of (s1 _ _ h1), atI_nat (j := 1) rfl, v2, d2, m, rfl, k2.mono s1, w2, by omega, fun H2 s2 => ?_⟩
                  refine ⟨_, rfl, ?_⟩
                  have s12 := s1.trans s2
                  cases e2 : twoD d2 with
                  | false =>
                    have z : lawD (.tuple [.tuple ws, d2]) = false := by
                      rw [law_two]
                      simp [e2]
                    refine iteF ?_
                    rw [← z]
                    exact q H2 s12
                  | true =>
                    refine iteT ?_
                    have z : lawD (.tuple [.tuple ws, d2]) = !(ws.any fun z => PyData.eqv z d2) := by
                      rw [law_two]
                      simp only [e1, ne, e2]
                      rfl
                    have ha := s12 _ _ h1
                    refine ⟨_, rfl, _, _, _, _, rfl, rfl, .of ha, atI_nat (j := 1) rfl, _, rfl, _, _, _, _, rfl, rfl, .of ha, atI_nat (j := 0) rfl, d2, ws, (k2.mono s12).dp, (Dd.tup (s12 _ _ g1) (g2.mono s12)).dp, wf_shaped w2 (by omega), wf_shaped w1 (by omega), ?_⟩
                    rw [← z]
                    exact q H2 s12
                · have c3 : ¬ (0 : Int) < (ys.length : Int) := of_decide_eq_false (Bool.eq_false_iff.mpr c)
                  have ne : ws = [] := by
                    cases ws with
                    | nil => rfl
                    | cons _ _ =>
                      simp at gl
                      omega
                  have z : lawD (.tuple [.tuple ws, d2]) = false := by
                    rw [law_two, ne]
                    simp
                  rw [← z]
                  exact q H1 s1
    · have c' : ¬ V.int (xs.length : Int) = V.int 2 := of_decide_eq_false (Bool.eq_false_iff.mpr c)
      have c2 : ds.length ≠ 2 := fun e => c' (by rw [hl, e]; rfl)
      rw [← law_len c2]
      exact q'
  | non => exact iteF q'
  | bl b => exact iteF q'
  | int i => exact iteF q'
  | lst _ _ => exact iteF q'
  | str _ => exact iteF q'
theorem tide_len {ds : List PyData} (h : ds.length ≠ 3) : tideD (.tuple ds) = false := by
  unfold tideD
  split
  · rename_i e
    cases e
    exact absurd rfl h
  · rfl
theorem scFlood : FnScope ["thing"] ["thing"] (defScope (topS 7)) := ⟨rfl, rfl, rfl, by decide +kernel, rfl, by decide +kernel, by decide +kernel⟩
theorem ok_flood (B : Bts mg) (gN : Has P w K mg base 1 "is_name" ["thing"] (spD nameD)) (gPs : Has P w K mg base 3 "is_pairs" ["thing"] (spD twosD)) (F : Fun K "is_flood" "is_flood" (topS 7) f fd) : FnOk P w K mg base CX0 4 f fd ["thing"] (spD tideD) := by
  refine F.ok scFlood (spD_len rfl) (fun cdv A outer s H vs Q E hr h => ?_)
  obtain ⟨v, d, n, rfl, hd, hw, hn, q⟩ := h
  refine ⟨_, pss_one (ps_ret (pe_and (pe_callB call_isi (by rfl) B.isi (by decide +kernel) (pa_cons (pv 0) (pa_cons (pe_bltn (v := .ty "tuple") (by rfl) B.tuple (by decide +kernel) rfl) pa_nil)))
    (pe_and (pe_cmpR op_eq (pe_callB call_len_seq (by rfl) B.len PySem.boot_len (pa_cons (pv 0) pa_nil)) pe_int (nomark _))
    (pe_and (pe_has gN (hr.mono (by decide)) (pa_cons (pe_ix ix_tup (pv 0) pe_int (fun _ _ => rfl)) pa_nil))
    (pe_and (pe_has gPs hr (pa_cons (pe_ix ix_tup (pv 0) pe_int (fun _ _ => rfl)) pa_nil))
    (pe_one (pe_has gPs hr (pa_cons (pe_ix ix_tup (pv 0) pe_int (fun _ _ => rfl)) pa_nil)))))))), ?_⟩
  refine ⟨_, rfl, _, _, _, _, _, rfl, .ty "tuple", hd.ty, kit_tup d, _, rfl, ?_⟩
  have q' := q H (.refl H)
  cases hd with
  | @tup a xs ds h1 h2 =>
    obtain ⟨m, rfl, hlen, hall⟩ := wf_tuple hw
    have hl := h2.length
    refine iteT ?_
    refine ⟨_, rfl, _, _, rfl, .inr (.of h1), rfl, _, rfl, ?_⟩
    refine ite2 (fun c => ?_) (fun c => ?_)
    · have c' : V.int (xs.length : Int) = V.int 3 := of_decide_eq_true c
      have c2 : ds.length = 3 := by
        injection c' with c'
        omega
      match ds, c2, h2, hall, q, q' with
      | [d1, d2, d3], _, h2, hall, q, q' =>
        cases h2 with
        | @cons v1 vs1 _ _ k1 t1 =>
          cases t1 with
          | @cons v2 vs2 _ _ k2 t2 =>
            cases t2 with
            | @cons v3 vs3 _ _ k3 t3 =>
              cases t3
              have w1 := hall d1 (by simp)
              have w2 := hall d2 (by simp)
              have w3 := hall d3 (by simp)
              refine ⟨_, rfl, _, _, _, _, rfl, rfl, .of h1, atI_nat (j := 0) rfl, v1, d1, m, rfl, k1, w1, by omega, fun H1 s1 => ?_⟩
              refine ⟨_, rfl, ?_⟩
              cases e1 : nameD d1 with
              | false =>
                have z : tideD (.tuple [d1, d2, d3]) = false := by simp [tideD, e1]
                refine iteF ?_
                rw [← z]
                exact q H1 s1
              | true =>
                refine iteT ?_
                refine ⟨_, rfl, _, _, _, _, rfl, rfl, .of (s1 _ _ h1), atI_nat (j := 1) rfl, v2, d2, m, rfl, k2.mono s1, w2, by omega, fun H2 s2 => ?_⟩
                refine ⟨_, rfl, ?_⟩
                have s12 := s1.trans s2
                cases e2 : twosD d2 with
                | false =>
                  have z : tideD (.tuple [d1, d2, d3]) = false := by simp [tideD, e1, e2]
                  refine iteF ?_
                  rw [← z]
                  exact q H2 s12
                | true =>
                  refine iteT ?_
                  refine ⟨_, rfl, _, _, _, _, rfl, rfl, .of (s12 _ _ h1), atI_nat (j := 2) rfl, v3, d3, m, rfl, k3.mono s12, w3, by omega, fun H3 s3 => ?_⟩
                  have z : tideD (.tuple [d1, d2, d3]) = twosD d3 := by simp [tideD, e1, e2]
                  rw [← z]
                  exact q H3 (s12.trans s3)
    · have c' : ¬ V.int (xs.length : Int) = V.int 3 := of_decide_eq_false (Bool.eq_false_iff.mpr c)
      have c2 : ds.length ≠ 3 := fun e => c' (by rw [hl, e]; rfl)
      rw [← tide_len c2]
      exact q'
  | non => exact iteF q'
  | bl b => exact iteF q'
  | int i => exact iteF q'
  | lst _ _ => exact iteF q'
  | str _ => exact iteF q'
end
end Lf

set_option maxHeartbeats 4000000
namespace Lf
open PySem PySem.Spec PyProof.Rows L2

theorem eqv_nil_list : ∀ ds : List PyData, PyData.eqv (.list ds) (.list []) = ds.isEmpty
  | [] => by simp [PyData.eqv, PyData.eqvAll]
  | _ :: _ => by simp [PyData.eqv, PyData.eqvAll]
theorem eqv_nil_tup : ∀ ds : List PyData, PyData.eqv (.tuple ds) (.tuple []) = ds.isEmpty
  | [] => by simp [PyData.eqv, PyData.eqvAll]
  | _ :: _ => by simp [PyData.eqv, PyData.eqvAll]
theorem shaped_list {n : Nat} {ds : List PyData} (h : ∀ d ∈ ds, wf n d = true) (hn : n ≤ 60) : SeqAt.shaped (.list ds) = true := by
  have r : ∀ d ∈ ds, d.canLay0 = true ∧ d.depth ≤ n := fun d hd => wf_lay n d (h d hd)
  have q := depthAll_le fun d hd => (r d hd).2
  have e : PyData.depth (.list ds) ≤ 64 := by
    simp only [PyData.depth]
    omega
  show (PyData.canLay0 (.list ds) && decide (PyData.depth (.list ds) ≤ 64)) = true
  rw [Bool.and_eq_true]
  exact ⟨by simp only [PyData.canLay0]; exact layAll_of fun d hd => (r d hd).1, decide_eq_true e⟩
theorem letters_in : ∀ c : Nat, decide (c ∈ (Str.ofString "abcdefghijklmnopqrstuvwxyz").cps.toList) = letter c := by
  intro c
  have e : (Str.ofString "abcdefghijklmnopqrstuvwxyz").cps.toList = (List.range 26).map (· + 97) := by decide +kernel
  rw [e]
  unfold letter
  rw [decide_eq_decide]
  simp only [List.mem_map, List.mem_range]
  constructor
  · rintro ⟨a, h, rfl⟩
    omega
  · intro h
    exact ⟨c - 97, by omega, by omega⟩
theorem lay_str {x : Str} (h : PyData.canLay0 (.str x) = true) : ∀ c ∈ x.cps.toList, c < 0x110000 := by
  have h' : x.cps.all (fun c => decide (c < 0x110000)) = true := by
    simp only [PyData.canLay0] at h
    exact h
  rw [arr_all] at h'
  intro c hc
  exact of_decide_eq_true (List.all_eq_true.mp h' c hc)
theorem wf_sign {c : Nat} (h : c < 0x110000) (n : Nat) : wf n (.str ⟨#[c]⟩) = true := by
  have e : PyData.canLay0 (.str ⟨#[c]⟩) = true := by simp [PyData.canLay0, PyData.strOk, h]
  have l : (⟨#[c]⟩ : Str).length ≤ 1000 := by show 1 ≤ 1000; decide
  cases n <;> simp only [wf, e, decide_eq_true l] <;> rfl
theorem ddAll_strs {H : Hp} : ∀ l : List Str, DdAll H (l.map V.str) (l.map PyData.str)
  | [] => .nil
  | x :: l => .cons (.str x) (ddAll_strs l)
theorem ddAll_ints {H : Hp} : ∀ l : List Int, DdAll H (l.map V.int) (l.map PyData.int)
  | [] => .nil
  | x :: l => .cons (.int x) (ddAll_ints l)
theorem name_not {x : Str} (h : ¬ (0 < x.length ∧ x.length < 9)) : nameS x = false := by
  unfold nameS
  rw [decide_eq_false (fun z => h ⟨by omega, by omega⟩)]
  rfl
theorem name_yes {x : Str} (h : 0 < x.length ∧ x.length < 9) : nameS x = (x.cps.toList.filter fun c => !letter c).isEmpty := by
  unfold nameS
  rw [decide_eq_true ⟨by omega, by omega⟩, Bool.true_and]
  induction x.cps.toList with
  | nil => rfl
  | cons c l ih =>
    rw [List.all_cons, ih, List.filter_cons]
    cases letter c <;> simp
section
variable {P : Program} {w : World} {K : PySem.W.Frag} {mg : Str → Option Value} {base : Heap} {f : Addr} {fd : FuncData}
theorem scLName : FnScope ["_law_bit", "_law_signs", "_law_sign"] ["_law_bit"] (defScope (topS 21)) := ⟨rfl, rfl, rfl, by decide +kernel, rfl, by decide +kernel, by decide +kernel⟩
theorem ok_lname (B : Bts mg) (F : Fun K "_law_is_name" "_law_is_name" (topS 21) f fd) : FnOk P w K mg base CX0 1 f fd ["_law_bit"] (spD nameD) := by
  refine F.ok scLName (spD_len rfl) (fun cdv A outer s H vs Q E hr h => ?_)
  obtain ⟨v, d, n, rfl, hd, hw, hn, q⟩ := h
  refine ⟨_, pss_cons (ps_set (i := 1) scLName.nd rfl (Or.inr rfl) pe_str)
    (pss_one (ps_ret (pe_and (pe_callB call_isi (by rfl) B.isi (by decide +kernel) (pa_cons (pv 0) (pa_cons (pe_bltn (v := .ty "str") (by rfl) B.str (by decide +kernel) rfl) pa_nil)))
    (pe_and (pe_chain op_lt op_lt pe_int (pe_callB call_len_str (by rfl) B.len PySem.boot_len (pa_cons (pv 0) pa_nil)) pe_int)
    (pe_one (pe_cmpR (op_eqD hr.units) (pe_lc (own := [("_law_sign", 2)]) (g := gName 2) rfl scLName.nd (pi_str (pv 0))
        (blkOk_by (own := [("_law_sign", 2)]) (N := ["_law_bit", "_law_signs", "_law_sign"]) (sc := defScope (topS 21)) (by decide +kernel))
        (fun _ _ _ _ _ => pg_name (i := 2) scLName.nd rfl (Or.inl rfl)) (fun _ _ _ _ _ => pts_one (pt_cmpR op_notIn_sign (pv 2) (pv 1) (by rfl)))
        (fun _ _ _ _ _ => pv 2)) (pe_lst pa_nil) (nomark _))))))), ?_⟩
  refine ⟨_, rfl, _, _, _, _, _, rfl, .ty "str", hd.ty, kit_str d, _, rfl, ?_⟩
  have q' := q H (.refl H)
  cases hd with
  | str x =>
    obtain ⟨hlay, hx⟩ := wf_str hw
    have q2 : ∀ H', Same H H' → Q (.bl (nameS x)) H' := q
    refine iteT ?_
    refine ⟨_, rfl, _, rfl, small hx, _, _, rfl, rfl, _, rfl, ?_⟩
    refine ite2 (fun c => ?_) (fun c => ?_)
    · have c1 : (0 : Int) < (x.length : Int) := of_decide_eq_true c
      refine ⟨_, _, rfl, rfl, _, rfl, ?_⟩
      refine ite2 (fun c => ?_) (fun c => ?_)
      · have c2 : (x.length : Int) < (9 : Int) := of_decide_eq_true c
        have hb : 0 < x.length ∧ x.length < 9 := ⟨by omega, by omega⟩
        refine ⟨_, rfl, x, rfl, fun D nD => ?_⟩
        have hsz : x.cps.size = x.cps.toList.length := by simp
        have hl8 : x.cps.toList.length ≤ 8 := by
          have := len_list x
          omega
        refine lc_it walk_str (fun i H2 => Same H H2 ∧ H2 D = some (.lst ((((x.cps.toList.take i).filter fun c => !letter c).map fun c => (⟨#[c]⟩ : Str)).map V.str)))
          ⟨same_new nD _, upd_same⟩ (fun _ _ _ _ => trivial) (fun i y H2 H3 hi hP hY => ?_) (fun H2 hP => ?_)
        · obtain ⟨rfl, c, hc, rfl⟩ := hY
          obtain ⟨sm, hD⟩ := hP
          have hc' : x.cps.toList[i]? = some c := by simpa using hc
          refine ⟨rfl, _, rfl, _, rfl, _, _, rfl, rfl, _, rfl, ?_⟩
          have e : x.cps.toList.take (i + 1) = x.cps.toList.take i ++ [c] := by
            rw [List.take_add_one, hc']
            rfl
          rw [letters_in]
          refine ite2 (fun z => ?_) (fun z => ?_)
          · refine ⟨_, rfl, _, hD, ?_, same_upd sm nD _, ?_⟩
            · rw [List.length_map, List.length_map]
              have h1 := List.length_filter_le (fun c => !letter c) (x.cps.toList.take i)
              rw [List.length_take] at h1
              exact small1000 (by omega)
            · rw [upd_same, e, List.filter_append, List.filter_cons, if_pos z]
              simp
          · refine ⟨sm, ?_⟩
            rw [e, List.filter_append, List.filter_cons, if_neg z]
            simpa using hD
        · obtain ⟨sm, hD⟩ := hP
          rw [hsz, List.take_length] at hD
          refine ⟨Nat.zero_le _, fun p np => ?_⟩
          have hDp : D ≠ p := ne_of_none hD np
          have hD2 := (same_new np (.lst [])) _ _ hD
          refine ⟨_, .list [], (Dd.lst hD2 (ddAll_strs _)).dp, (Dd.lst upd_same .nil).dp, shaped_list (n := 1) ?_ (by decide), by decide +kernel, ?_⟩
          · intro d hd
            simp only [List.mem_map, List.mem_filter] at hd
            obtain ⟨y, ⟨c, ⟨hc, _⟩, rfl⟩, rfl⟩ := hd
            exact wf_sign (lay_str hlay c hc) 1
          · rw [eqv_nil_list]
            have z : nameS x = (((x.cps.toList.filter fun c => !letter c).map fun c => (⟨#[c]⟩ : Str)).map PyData.str).isEmpty := by
              rw [name_yes hb]
              cases (x.cps.toList.filter fun c => !letter c) <;> rfl
            rw [← z]
            exact q2 _ (sm.trans (same_new np _))
      · have c2 : ¬ (x.length : Int) < (9 : Int) := of_decide_eq_false (Bool.eq_false_iff.mpr c)
        rw [name_not (x := x) (by omega)] at q2
        exact q2 H (.refl H)
    · have c1 : ¬ (0 : Int) < (x.length : Int) := of_decide_eq_false (Bool.eq_false_iff.mpr c)
      rw [name_not (x := x) (by omega)] at q2
      refine ⟨_, rfl, ?_⟩
      exact iteF (q2 H (.refl H))
  | non => exact iteF q'
  | bl b => exact iteF q'
  | int i => exact iteF q'
  | lst _ _ => exact iteF q'
  | tup _ _ => exact iteF q'

theorem two_len {ds : List PyData} (h : ds.length ≠ 2) : twoD (.tuple ds) = false := by
  unfold twoD
  split
  · rename_i e
    cases e
    exact absurd rfl h
  · rfl
theorem scLTwo : FnScope ["_law_bit"] ["_law_bit"] (defScope (topS 22)) := ⟨rfl, rfl, rfl, by decide +kernel, rfl, by decide +kernel, by decide +kernel⟩
theorem ok_ltwo (B : Bts mg) (gN : Has P w K mg base 1 "_law_is_name" ["_law_bit"] (spD nameD)) (F : Fun K "_law_is_two" "_law_is_two" (topS 22) f fd) : FnOk P w K mg base CX0 2 f fd ["_law_bit"] (spD twoD) := by
  refine F.ok scLTwo (spD_len rfl) (fun cdv A outer s H vs Q E hr h => ?_)
  obtain ⟨v, d, n, rfl, hd, hw, hn, q⟩ := h
  refine ⟨_, pss_cons (ps_if (PW.pt (pw_or (pt_not (pt_val (pe_callB call_isi (by rfl) B.isi (by decide +kernel) (pa_cons (pv 0) (pa_cons (pe_bltn (v := .ty "tuple") (by rfl) B.tuple (by decide +kernel) rfl) pa_nil)))))
      (pw_or (pt_cmpR op_ne (pe_callB call_len_seq (by rfl) B.len PySem.boot_len (pa_cons (pv 0) pa_nil)) pe_int (nomark _))
      (pw_or (pt_not (pt_val (pe_has gN hr (pa_cons (pe_ix ix_tup (pv 0) pe_int (fun _ _ => rfl)) pa_nil))))
      (pw_or1 (pt_not (pt_val (pe_has gN hr (pa_cons (pe_ix ix_tup (pv 0) pe_int (fun _ _ => rfl)) pa_nil)))))))))
      (pss_one (ps_ret pe_bl)) pss_nil)
    (pss_one (ps_ret (pe_cmpR op_lt_str (pe_ix ix_tup (pv 0) pe_int (fun _ _ => rfl)) (pe_ix ix_tup (pv 0) pe_int (fun _ _ => rfl)) (nomark _)))), ?_⟩
  refine ⟨_, rfl, _, _, _, _, _, rfl, .ty "tuple", hd.ty, kit_tup d, _, rfl, ?_⟩
  have q' := q H (.refl H)
  cases hd with
  | @tup a xs ds h1 h2 =>
    obtain ⟨m, rfl, hlen, hall⟩ := wf_tuple hw
    have hl := h2.length
    refine iteF ?_
    refine ⟨_, rfl, _, _, rfl, .inr (.of h1), rfl, _, rfl, ?_⟩
    by_cases c2 : ds.length = 2
    · have c' : V.int (xs.length : Int) = V.int 2 := by rw [hl, c2]; rfl
      rw [decide_eq_true c']
      refine iteF ?_
      match ds, c2, h2, hall, q, q' with
      | [d1, d2], _, h2, hall, q, q' =>
        cases h2 with
        | @cons v1 vs1 _ _ k1 t1 =>
          cases t1 with
          | @cons v2 vs2 _ _ k2 t2 =>
            cases t2
            have w1 := hall d1 (by simp)
            have w2 := hall d2 (by simp)
            refine ⟨_, rfl, _, _, _, _, rfl, rfl, .of h1, atI_nat (j := 0) rfl, v1, d1, m, rfl, k1, w1, by omega, fun H1 s1 => ?_⟩
            refine ⟨_, rfl, ?_⟩
            cases e1 : nameD d1 with
            | false =>
              have z : twoD (.tuple [d1, d2]) = false := by simp [twoD, e1]
              rw [z] at q
              refine iteT (iteT ?_)
              exact q H1 s1
            | true =>
              refine iteF ?_
              refine ⟨_, rfl, _, _, _, _, rfl, rfl, .of (s1 _ _ h1), atI_nat (j := 1) rfl, v2, d2, m, rfl, k2.mono s1, w2, by omega, fun H2 s2 => ?_⟩
              refine ⟨_, rfl, ?_⟩
              cases e2 : nameD d2 with
              | false =>
                have z : twoD (.tuple [d1, d2]) = false := by simp [twoD, e1, e2]
                rw [z] at q
                refine iteT ?_
                exact q H2 (s1.trans s2)
              | true =>
                refine iteF ?_
                obtain ⟨x, rfl⟩ := name_str e1
                obtain ⟨y, rfl⟩ := name_str e2
                cases k1
                cases k2
                have ha := s2 _ _ (s1 _ _ h1)
                refine ⟨_, rfl, _, _, _, _, rfl, rfl, .of ha, atI_nat (j := 0) rfl, _, rfl, _, _, _, _, rfl, rfl, .of ha, atI_nat (j := 1) rfl, x, y, rfl, rfl, ?_⟩
                have z : twoD (.tuple [.str x, .str y]) = decide (x.cps.toList < y.cps.toList) := by
                  show (nameD (.str x) && nameD (.str y) && PySem.W.dataLt (.str x) (.str y)) = _
                  rw [e1, e2, PySem.W.dataLt_str]
                  rfl
                rw [← z]
                exact q H2 (s1.trans s2)
    · have c' : ¬ V.int (xs.length : Int) = V.int 2 := fun e => c2 (by injection e with e; omega)
      rw [decide_eq_false c']
      rw [two_len c2] at q'
      exact iteT (iteT q')
  | non => exact iteT (iteT q')
  | bl b => exact iteT (iteT q')
  | int i => exact iteT (iteT q')
  | lst _ _ => exact iteT (iteT q')
  | str _ => exact iteT (iteT q')
end
end Lf

set_option maxHeartbeats 4000000
namespace Lf
open PySem PySem.Spec PyProof.Rows L2

theorem filter_nil_all {α : Type} (p : α → Bool) : ∀ ds : List α, (ds.filter fun d => !p d) = [] ↔ ds.all p = true
  | [] => by simp
  | d :: ds => by
    rw [List.filter_cons, List.all_cons]
    have ih := filter_nil_all p ds
    cases p d <;> simp [ih]
section
variable {P : Program} {w : World} {K : PySem.W.Frag} {mg : Str → Option Value} {base : Heap} {f : Addr} {fd : FuncData}
theorem scLTwos : FnScope ["_law_bit", "_law_own", "_law_k"] ["_law_bit"] (defScope (topS 23)) := ⟨rfl, rfl, rfl, by decide +kernel, rfl, by decide +kernel, by decide +kernel⟩
theorem ok_ltwos (B : Bts mg) (gT : Has P w K mg base 2 "_law_is_two" ["_law_bit"] (spD twoD)) (F : Fun K "_law_is_twos" "_law_is_twos" (topS 23) f fd) : FnOk P w K mg base CX0 3 f fd ["_law_bit"] (spD twosD) := by
  refine F.ok scLTwos (spD_len rfl) (fun cdv A outer s H vs Q E hr h => ?_)
  obtain ⟨v, d, n, rfl, hd, hw, hn, q⟩ := h
  refine ⟨_, pss_cons (ps_if (PW.pt (pw_or (pt_not (pt_val (pe_callB call_isi (by rfl) B.isi (by decide +kernel) (pa_cons (pv 0) (pa_cons (pe_bltn (v := .ty "tuple") (by rfl) B.tuple (by decide +kernel) rfl) pa_nil)))))
      (pw_or1 (pt_cmpR (op_neD hr.units) (pe_lc (own := [("_law_own", 1)]) (g := gName 1) rfl scLTwos.nd (pi_tup (pv 0))
        (blkOk_by (own := [("_law_own", 1)]) (N := ["_law_bit", "_law_own", "_law_k"]) (sc := defScope (topS 23)) (by decide +kernel))
        (fun _ _ _ _ _ => pg_name (i := 1) scLTwos.nd rfl (Or.inl rfl)) (fun _ _ _ _ _ => pts_one (pt_not (pt_val (pe_has gT hr (pa_cons (pv 1) pa_nil)))))
        (fun _ _ _ _ _ => pv 1)) (pe_lst pa_nil) (nomark _)))))
      (pss_one (ps_ret pe_bl)) pss_nil)
    (pss_one (ps_ret (pe_cmpR (op_eqD hr.units) (pe_lc (own := [("_law_k", 2)]) (g := gName 2) rfl scLTwos.nd (pi_range2 (by rfl) B.range (pa_cons pe_int (pa_cons (pe_callB call_len_seq (by rfl) B.len PySem.boot_len (pa_cons (pv 0) pa_nil)) pa_nil)))
        (blkOk_by (own := [("_law_k", 2)]) (N := ["_law_bit", "_law_own", "_law_k"]) (sc := defScope (topS 23)) (by decide +kernel))
        (fun _ _ _ _ _ => pg_name (i := 2) scLTwos.nd rfl (Or.inl rfl))
        (fun _ _ _ _ _ => pts_one (pt_not (pt_cmpR (show OpR _ (compareOp .Lt) (rLtD K) from op_ltD hr.units) (pe_ix (show IxR _ (rIxT K) from ix_tup) (pv 0) (pe_op op_sub (pv 2) pe_int) (fun _ _ => rfl)) (pe_ix (show IxR _ (rIxT K) from ix_tup) (pv 0) (pv 2) (fun _ _ => rfl)) (nomark _))))
        (fun _ _ _ _ _ => pv 2)) (pe_lst pa_nil) (nomark _)))), ?_⟩
  refine ⟨_, rfl, _, _, _, _, _, rfl, .ty "tuple", hd.ty, kit_tup d, _, rfl, ?_⟩
  have q' := q H (.refl H)
  cases hd with
  | @tup a xs ds h1 h2 =>
    obtain ⟨m, rfl, hlen, hall⟩ := wf_tuple hw
    have hl := h2.length
    refine iteF ?_
    refine ⟨_, rfl, a, rfl, ⟨_, .of h1⟩, fun D nD => ?_⟩
    refine lc_it (walk_tup (K := K) (a := a) (xs := xs)) (fun i H2 => Same H H2 ∧ ∃ ys, H2 D = some (.lst ys) ∧ ys.length ≤ i ∧ DdAll H ys ((ds.take i).filter fun d => !twoD d))
      ⟨same_new nD _, [], upd_same, Nat.zero_le _, .nil⟩ (fun i H2 _ hP => .of (hP.1 _ _ h1)) (fun i y H2 H3 hi hP hY => ?_) (fun H2 hP => ?_)
    · obtain ⟨rfl, hx⟩ := hY
      obtain ⟨sm, ys, hD, hy, hds⟩ := hP
      obtain ⟨d1, g1, k1⟩ := h2.get hx
      have e : ds.take (i + 1) = ds.take i ++ [d1] := by
        rw [List.take_add_one, g1]
        rfl
      have w1 := hall d1 (List.mem_of_getElem? g1)
      refine ⟨rfl, _, rfl, y, d1, m, rfl, k1.mono sm, w1, by omega, fun H4 s4 => ?_⟩
      refine ⟨_, rfl, ?_⟩
      refine ite2 (fun z => ?_) (fun z => ?_)
      · refine ⟨y, rfl, ys, s4 _ _ hD, small1000 (by omega), same_upd (sm.trans s4) nD _, ys ++ [y], upd_same, ?_, ?_⟩
        · rw [List.length_append, List.length_singleton]
          omega
        · rw [e, List.filter_append, List.filter_cons, if_pos z]
          exact hds.append (.cons k1 .nil)
      · refine ⟨sm.trans s4, ys, s4 _ _ hD, by omega, ?_⟩
        rw [e, List.filter_append, List.filter_cons, if_neg z]
        simpa using hds
    · obtain ⟨sm, ys, hD, hy, hds⟩ := hP
      rw [List.take_of_length_le (by omega)] at hds
      refine ⟨Nat.zero_le _, fun p np => ?_⟩
      have s3 := sm.trans (same_new np (.lst []))
      have hD2 := (same_new np (.lst [])) _ _ hD
      refine ⟨_, .list [], (Dd.lst hD2 (hds.mono s3)).dp, (Dd.lst upd_same .nil).dp, shaped_list (n := m) ?_ (by omega), by decide +kernel, ?_⟩
      · intro d hd
        exact hall d (List.mem_filter.mp hd).1
      rw [eqv_nil_list]
      refine ⟨_, rfl, ?_⟩
      cases e : ds.all twoD with
      | false =>
        have z : twosD (.tuple ds) = false := by simp [twosD, e]
        rw [z] at q
        have ne : (ds.filter fun d => !twoD d).isEmpty = false := by
          cases e2 : (ds.filter fun d => !twoD d) with
          | nil =>
            have := (filter_nil_all twoD ds).mp e2
            rw [e] at this
            cases this
          | cons _ _ => rfl
        rw [ne]
        exact iteT (q _ s3)
      | true =>
        have z : twosD (.tuple ds) = ascD ds := by simp [twosD, e]
        rw [z] at q
        have ht := List.all_eq_true.mp e
        have ne : (ds.filter fun d => !twoD d) = [] := (filter_nil_all twoD ds).mpr e
        rw [ne]
        refine iteF ?_
        generalize hH3 : upd H2 p (HO.lst []) = H3 at s3
        have h13 : H3 a = some (.tup xs) := s3 _ _ h1
        refine ⟨_, rfl, _, _, rfl, .inr (.of h13), 1, (xs.length : Int), rfl, ⟨by decide, by decide, by omega, by omega⟩, fun D2 nD2 => ?_⟩
        refine lc_it (walk_range (lo := 1) (n := ((xs.length : Int) - 1).toNat)) (fun i H4 => Same H3 H4 ∧ ∃ ks : List Int, H4 D2 = some (.lst (ks.map V.int)) ∧ ks.length ≤ i ∧ (ks.isEmpty = ((List.zipWith ltD ds (ds.drop 1)).take i).all id))
          ⟨same_new nD2 _, [], upd_same, Nat.zero_le _, rfl⟩ (fun _ _ _ _ => trivial) (fun i y H4 H5 hi hP hY => ?_) (fun H4 hP => ?_)
        · obtain ⟨rfl, rfl⟩ := hY
          obtain ⟨sm4, ks, hD4, hks, hke⟩ := hP
          have hi1 : i < ds.length := by omega
          have hi2 : i + 1 < ds.length := by omega
          obtain ⟨v1, x1, k1⟩ := h2.get' (List.getElem?_eq_getElem hi1)
          obtain ⟨v2, x2, k2⟩ := h2.get' (List.getElem?_eq_getElem hi2)
          have a1 : atI xs ((1 : Int) + (i : Int) - 1) = some v1 := by
            rw [show (1 : Int) + (i : Int) - 1 = (i : Int) by omega]
            exact atI_nat x1
          have a2 : atI xs ((1 : Int) + (i : Int)) = some v2 := by
            rw [show (1 : Int) + (i : Int) = ((i + 1 : Nat) : Int) by omega]
            exact atI_nat x2
          have h14 := sm4 _ _ h13
          have s05 := s3.trans sm4
          obtain ⟨al, nn, dep⟩ := alike_two (ht _ (List.getElem_mem hi1)) (ht _ (List.getElem_mem hi2))
          refine ⟨rfl, _, rfl, _, rfl, _, _, rfl, rfl, _, _, _, _, rfl, rfl, .of h14, a1, _, rfl, _, rfl, _, _, _, _, rfl, rfl, .of h14, a2, _, _, (k1.mono s05).dp, (k2.mono s05).dp, al, nn, dep, _, rfl, ?_⟩
          have ez : (List.zipWith ltD ds (ds.drop 1))[i]? = some (ltD ds[i] ds[i + 1]) := by
            rw [List.getElem?_zipWith, List.getElem?_drop, List.getElem?_eq_getElem hi1, show 1 + i = i + 1 by omega, List.getElem?_eq_getElem hi2]
          have et : (List.zipWith ltD ds (ds.drop 1)).take (i + 1) = (List.zipWith ltD ds (ds.drop 1)).take i ++ [ltD ds[i] ds[i + 1]] := by
            rw [List.take_add_one, ez]
            rfl
          refine ite2 (fun z => ?_) (fun z => ?_)
          · have z' : ltD ds[i] ds[i + 1] = false := by simpa [ltD] using z
            refine ⟨_, rfl, _, hD4, ?_, same_upd sm4 nD2 _, ks ++ [1 + (i : Int)], ?_, ?_, ?_⟩
            · rw [List.length_map]
              exact small1000 (by omega)
            · rw [upd_same, List.map_append]
              rfl
            · rw [List.length_append, List.length_singleton]
              omega
            · rw [et, List.all_append]
              simp [z']
          · have z' : ltD ds[i] ds[i + 1] = true := by simpa [ltD] using z
            refine ⟨sm4, ks, hD4, by omega, ?_⟩
            rw [et, List.all_append, ← hke]
            simp [z']
        · obtain ⟨sm4, ks, hD4, hks, hke⟩ := hP
          rw [List.take_of_length_le (by rw [List.length_zipWith, List.length_drop]; omega), ← asc_zip] at hke
          refine ⟨Nat.zero_le _, fun p2 np2 => ?_⟩
          have s6 := same_new np2 (.lst [])
          refine ⟨_, .list [], (Dd.lst (s6 _ _ hD4) (ddAll_ints ks)).dp, (Dd.lst upd_same .nil).dp, shaped_list (n := 1) ?_ (by decide), by decide +kernel, ?_⟩
          · intro d hd
            obtain ⟨k, _, rfl⟩ := List.mem_map.mp hd
            rfl
          rw [eqv_nil_list, show (ks.map PyData.int).isEmpty = ks.isEmpty by cases ks <;> rfl, hke]
          exact q _ (s3.trans (sm4.trans s6))
  | non => exact iteT (iteT q')
  | bl b => exact iteT (iteT q')
  | int i => exact iteT (iteT q')
  | lst _ _ => exact iteT (iteT q')
  | str _ => exact iteT (iteT q')

theorem scLLaw : FnScope ["_law_bit"] ["_law_bit"] (defScope (topS 24)) := ⟨rfl, rfl, rfl, by decide +kernel, rfl, by decide +kernel, by decide +kernel⟩
theorem ok_llaw (B : Bts mg) (gT : Has P w K mg base 2 "_law_is_two" ["_law_bit"] (spD twoD)) (gTs : Has P w K mg base 3 "_law_is_twos" ["_law_bit"] (spD twosD)) (F : Fun K "_law_is_law" "_law_is_law" (topS 24) f fd) : FnOk P w K mg base CX0 4 f fd ["_law_bit"] (spD lawD) := by
  refine F.ok scLLaw (spD_len rfl) (fun cdv A outer s H vs Q E hr h => ?_)
  obtain ⟨v, d, n, rfl, hd, hw, hn, q⟩ := h
  have hu65 : A.units + 3 + 65 < cLine := by
    have : A.units + 3 + 16 * 3 + 200 < cLine := hr.un
    omega
  refine ⟨_, pss_cons (ps_if (PW.pt (pw_or (pt_not (pt_val (pe_callB call_isi (by rfl) B.isi (by decide +kernel) (pa_cons (pv 0) (pa_cons (pe_bltn (v := .ty "tuple") (by rfl) B.tuple (by decide +kernel) rfl) pa_nil)))))
      (pw_or (pt_cmpR op_ne (pe_callB call_len_seq (by rfl) B.len PySem.boot_len (pa_cons (pv 0) pa_nil)) pe_int (nomark _))
      (pw_or (pt_not (pt_val (pe_has gTs hr (pa_cons (pe_ix ix_tup (pv 0) pe_int (fun _ _ => rfl)) pa_nil))))
      (pw_or1 (pt_not (pt_val (pe_has gT (hr.mono (by decide)) (pa_cons (pe_ix ix_tup (pv 0) pe_int (fun _ _ => rfl)) pa_nil)))))))))
      (pss_one (ps_ret pe_bl)) pss_nil)
    (pss_one (ps_ret (pe_and (pe_cmpR (op_neD hr.units) (pe_ix ix_tup (pv 0) pe_int (fun _ _ => rfl)) (pe_tup pa_nil) (nomark _))
      (pe_one (pe_cmpR (op_notInTD hu65) (pe_ix ix_tup (pv 0) pe_int (fun _ _ => rfl)) (pe_ix ix_tup (pv 0) pe_int (fun _ _ => rfl)) (by rfl)))))), ?_⟩
  refine ⟨_, rfl, _, _, _, _, _, rfl, .ty "tuple", hd.ty, kit_tup d, _, rfl, ?_⟩
  have q' := q H (.refl H)
  cases hd with
  | @tup a xs ds h1 h2 =>
    obtain ⟨m, rfl, hlen, hall⟩ := wf_tuple hw
    have hl := h2.length
    refine iteF ?_
    refine ⟨_, rfl, _, _, rfl, .inr (.of h1), rfl, _, rfl, ?_⟩
    by_cases c2 : ds.length = 2
    · have c' : V.int (xs.length : Int) = V.int 2 := by rw [hl, c2]; rfl
      rw [decide_eq_true c']
      refine iteF ?_
      match ds, c2, h2, hall, q, q' with
      | [d1, d2], _, h2, hall, q, q' =>
        cases h2 with
        | @cons v1 vs1 _ _ k1 t1 =>
          cases t1 with
          | @cons v2 vs2 _ _ k2 t2 =>
            cases t2
            have w1 := hall d1 (by simp)
            have w2 := hall d2 (by simp)
            refine ⟨_, rfl, _, _, _, _, rfl, rfl, .of h1, atI_nat (j := 0) rfl, v1, d1, m, rfl, k1, w1, by omega, fun H1 s1 => ?_⟩
            refine ⟨_, rfl, ?_⟩
            cases e1 : twosD d1 with
            | false =>
              have z : lawD (.tuple [d1, d2]) = false := by
                rw [law_two]
                cases d1 <;> first | rfl | (dsimp only; rw [e1]; rfl)
              rw [z] at q
              exact iteT (iteT (q H1 s1))
            | true =>
              obtain ⟨ws, rfl⟩ := twos_tup e1
              refine iteF ?_
              cases k1 with
              | @tup b ys _ g1 g2 =>
                refine ⟨_, rfl, _, _, _, _, rfl, rfl, .of (s1 _ _ h1), atI_nat (j := 1) rfl, v2, d2, m, rfl, k2.mono s1, w2, by omega, fun H2 s2 => ?_⟩
                refine ⟨_, rfl, ?_⟩
                have s12 := s1.trans s2
                cases e2 : twoD d2 with
                | false =>
                  have z : lawD (.tuple [.tuple ws, d2]) = false := by
                    rw [law_two]
                    simp [e2]
                  rw [z] at q
                  exact iteT (q H2 s12)
                | true =>
                  refine iteF ?_
                  have ha := s12 _ _ h1
                  refine ⟨_, rfl, _, _, _, _, rfl, rfl, .of ha, atI_nat (j := 0) rfl, Nat.zero_le _, fun p np => ?_⟩
                  have s3 := s12.trans (same_new np (.tup []))
                  have kb := Dd.tup (s3 _ _ g1) (g2.mono s3)
                  have ha3 := s3 _ _ h1
                  refine ⟨_, .tuple [], kb.dp, (Dd.tup upd_same .nil).dp, wf_shaped w1 (by omega), by decide +kernel, ?_⟩
                  rw [eqv_nil_tup]
                  refine ⟨_, rfl, ?_⟩
                  cases ne : ws.isEmpty with
                  | true =>
                    have z : lawD (.tuple [.tuple ws, d2]) = false := by
                      rw [law_two]
                      simp [ne]
                    rw [z] at q
                    exact iteF (q _ s3)
                  | false =>
                    refine iteT ?_
                    have z : lawD (.tuple [.tuple ws, d2]) = !(ws.any fun z => PyData.eqv z d2) := by
                      rw [law_two]
                      simp only [e1, ne, e2]
                      rfl
                    refine ⟨_, rfl, _, _, _, _, rfl, rfl, .of ha3, atI_nat (j := 1) rfl, _, rfl, _, _, _, _, rfl, rfl, .of ha3, atI_nat (j := 0) rfl, d2, ws, (k2.mono s3).dp, kb.dp, wf_shaped w2 (by omega), wf_shaped w1 (by omega), ?_⟩
                    rw [← z]
                    exact q _ s3
    · have c' : ¬ V.int (xs.length : Int) = V.int 2 := fun e => c2 (by injection e with e; omega)
      rw [decide_eq_false c']
      rw [law_len c2] at q'
      exact iteT (iteT q')
  | non => exact iteT (iteT q')
  | bl b => exact iteT (iteT q')
  | int i => exact iteT (iteT q')
  | lst _ _ => exact iteT (iteT q')
  | str _ => exact iteT (iteT q')

theorem scLTide : FnScope ["_law_bit"] ["_law_bit"] (defScope (topS 25)) := ⟨rfl, rfl, rfl, by decide +kernel, rfl, by decide +kernel, by decide +kernel⟩
theorem ok_ltide (B : Bts mg) (gN : Has P w K mg base 1 "_law_is_name" ["_law_bit"] (spD nameD)) (gTs : Has P w K mg base 3 "_law_is_twos" ["_law_bit"] (spD twosD)) (F : Fun K "_law_is_tide" "_law_is_tide" (topS 25) f fd) : FnOk P w K mg base CX0 4 f fd ["_law_bit"] (spD tideD) := by
  refine F.ok scLTide (spD_len rfl) (fun cdv A outer s H vs Q E hr h => ?_)
  obtain ⟨v, d, n, rfl, hd, hw, hn, q⟩ := h
  refine ⟨_, pss_cons (ps_if (PW.pt (pw_or (pt_not (pt_val (pe_callB call_isi (by rfl) B.isi (by decide +kernel) (pa_cons (pv 0) (pa_cons (pe_bltn (v := .ty "tuple") (by rfl) B.tuple (by decide +kernel) rfl) pa_nil)))))
      (pw_or1 (pt_cmpR op_ne (pe_callB call_len_seq (by rfl) B.len PySem.boot_len (pa_cons (pv 0) pa_nil)) pe_int (nomark _)))))
      (pss_one (ps_ret pe_bl)) pss_nil)
    (pss_one (ps_ret (pe_and (pe_has gN (hr.mono (by decide)) (pa_cons (pe_ix ix_tup (pv 0) pe_int (fun _ _ => rfl)) pa_nil))
      (pe_and (pe_has gTs hr (pa_cons (pe_ix ix_tup (pv 0) pe_int (fun _ _ => rfl)) pa_nil))
      (pe_one (pe_has gTs hr (pa_cons (pe_ix ix_tup (pv 0) pe_int (fun _ _ => rfl)) pa_nil))))))), ?_⟩
  refine ⟨_, rfl, _, _, _, _, _, rfl, .ty "tuple", hd.ty, kit_tup d, _, rfl, ?_⟩
  have q' := q H (.refl H)
  cases hd with
  | @tup a xs ds h1 h2 =>
    obtain ⟨m, rfl, hlen, hall⟩ := wf_tuple hw
    have hl := h2.length
    refine iteF ?_
    refine ⟨_, rfl, _, _, rfl, .inr (.of h1), rfl, _, rfl, ?_⟩
    by_cases c2 : ds.length = 3
    · have c' : V.int (xs.length : Int) = V.int 3 := by rw [hl, c2]; rfl
      rw [decide_eq_true c']
      refine iteF ?_
      match ds, c2, h2, hall, q, q' with
      | [d1, d2, d3], _, h2, hall, q, q' =>
        cases h2 with
        | @cons v1 vs1 _ _ k1 t1 =>
          cases t1 with
          | @cons v2 vs2 _ _ k2 t2 =>
            cases t2 with
            | @cons v3 vs3 _ _ k3 t3 =>
              cases t3
              have w1 := hall d1 (by simp)
              have w2 := hall d2 (by simp)
              have w3 := hall d3 (by simp)
              refine ⟨_, rfl, _, _, _, _, rfl, rfl, .of h1, atI_nat (j := 0) rfl, v1, d1, m, rfl, k1, w1, by omega, fun H1 s1 => ?_⟩
              refine ⟨_, rfl, ?_⟩
              cases e1 : nameD d1 with
              | false =>
                have z : tideD (.tuple [d1, d2, d3]) = false := by simp [tideD, e1]
                rw [z] at q
                exact iteF (q H1 s1)
              | true =>
                refine iteT ?_
                refine ⟨_, rfl, _, _, _, _, rfl, rfl, .of (s1 _ _ h1), atI_nat (j := 1) rfl, v2, d2, m, rfl, k2.mono s1, w2, by omega, fun H2 s2 => ?_⟩
                refine ⟨_, rfl, ?_⟩
                have s12 := s1.trans s2
                cases e2 : twosD d2 with
                | false =>
                  have z : tideD (.tuple [d1, d2, d3]) = false := by simp [tideD, e1, e2]
                  rw [z] at q
                  exact iteF (q H2 s12)
                | true =>
                  refine iteT ?_
                  refine ⟨_, rfl, _, _, _, _, rfl, rfl, .of (s12 _ _ h1), atI_nat (j := 2) rfl, v3, d3, m, rfl, k3.mono s12, w3, by omega, fun H3 s3 => ?_⟩
                  have z : tideD (.tuple [d1, d2, d3]) = twosD d3 := by simp [tideD, e1, e2]
                  rw [← z]
                  exact q H3 (s12.trans s3)
    · have c' : ¬ V.int (xs.length : Int) = V.int 3 := fun e => c2 (by injection e with e; omega)
      rw [decide_eq_false c']
      rw [tide_len c2] at q'
      exact iteT q'
  | non => exact iteT (iteT q')
  | bl b => exact iteT (iteT q')
  | int i => exact iteT (iteT q')
  | lst _ _ => exact iteT (iteT q')
  | str _ => exact iteT (iteT q')
end
end Lf

set_option maxHeartbeats 4000000
namespace Lf
open PySem PySem.Spec PyProof.Rows L2

/-- two readings of one datum are told equal -/
def spSame (k : Nat) : Sp := fun vs H Q _ => ∃ v1 v2 d n, vs = [v1, v2] ∧ Dd H v1 d ∧ Dd H v2 d ∧ wf n d = true ∧ n + 1 ≤ k ∧ ∀ H', Same H H' → Q (.bl true) H'
theorem kitAny2 {K : PySem.W.Frag} {t : Value} {a b : Bool} {c1 c2 : Value} (h1 : PySem.W.kitOne K t c1 = some a) (h2 : PySem.W.kitOne K t c2 = some b) : PySem.W.kitAny K t [c1, c2] = some (a || b) := by
  refine kitAny_cons h1 (fun ha => kitAny_cons h2 (fun hb => ?_) (fun hb => by rw [hb, Bool.or_true])) (fun ha => by rw [ha, Bool.true_or])
  rw [ha, hb]
  exact kitAny_nil
/-- [same(x, y) for x, y in zip(xs, ys)] -/
theorem lc_zip {J : It} {G : Hp → Prop} {K : PySem.W.Frag} {xs ys : List V} {ds : List PyData} {te : TE} {vs : List Nat} {i1 i2 : Nat} {σ : L2.St} {H : Hp} {D : Addr} {Qd : Hp → Prop}
    (w : Walk J ds.length G (YPair (fun i => xs[i]?) (fun i => ys[i]?))) (hG : ∀ H2, Same H H2 → G H2) (h1 : DdAll H xs ds) (h2 : DdAll H ys ds) (nD : H D = none) (hlen : ds.length ≤ 1000)
    (hwp : ∀ v u, wipe (((wipe σ vs).set i1 (some v)).set i2 (some u)) vs = wipe σ vs)
    (hs : ∀ v u d H2 (R : VK), d ∈ ds → Dd H2 v d → Dd H2 u d → Same H H2 → (∀ H3, Same H2 H3 → R (.bl true) H3) → te (((wipe σ vs).set i1 (some v)).set i2 (some u)) H2 R)
    (hd : ∀ H2, Same H H2 → H2 D = some (.lst ((List.replicate ds.length true).map V.bl)) → Qd H2) :
    ∃ W : Nat → Nat → Hp → Prop, (∃ m, W 0 m (upd H D (.lst []))) ∧ ∀ i m H, W i m H →
      (J.stop i H ∧ Qd H) ∨ (J.go i H ∧ ∃ Nx : Hp → Prop, (∀ H', Nx H' → ∃ m', m' < m ∧ W (i + 1) m' H') ∧ ∀ x H', J.yld i H x H' → gTup K 2 (gCons (gName i1) (gCons (gName i2) gNil)) x (wipe σ vs) H' fun σ2 H2 => wipe σ2 vs = wipe σ vs ∧ tYes σ2 H2 fun b H3 =>
        if b = true then te σ2 H3 fun y H4 => ∃ acc, H4 D = some (.lst acc) ∧ acc.length < sizeLine ∧ Nx (upd H4 D (.lst (acc ++ [y]))) else Nx H3) := by
  refine lc_it w (fun i H2 => Same H H2 ∧ H2 D = some (.lst ((List.replicate i true).map V.bl))) ⟨same_new nD _, upd_same⟩ (fun i H2 _ hP => hG H2 hP.1) (fun i x H2 H3 hi hP hY => ?_) (fun H2 hP => hd H2 hP.1 hP.2)
  obtain ⟨T, x1, x2, rfl, nT, rfl, e1, e2⟩ := hY
  obtain ⟨sm, hD⟩ := hP
  have hDT : D ≠ T := ne_of_none hD nT
  obtain ⟨d1, g1, k1⟩ := h1.get e1
  obtain ⟨d2, g2, k2⟩ := h2.get e2
  have ed : d2 = d1 := by
    rw [g1] at g2
    exact (Option.some.inj g2).symm
  subst ed
  have s3 : Same H (upd H2 T (.tup [x1, x2])) := sm.trans (same_new nT _)
  refine ⟨T, _, rfl, .of upd_same, rfl, _, _, rfl, _, _, rfl, rfl, hwp x1 x2, yes ?_⟩
  rw [if_pos rfl]
  refine hs x1 x2 d2 _ _ (List.mem_of_getElem? g1) (k1.mono s3) (k2.mono s3) s3 fun H4 s4 => ?_
  refine ⟨_, s4 _ _ ((upd_ne hDT).trans hD), ?_, same_upd (s3.trans s4) nD _, ?_⟩
  · rw [List.length_map, List.length_replicate]
    exact small1000 (by omega)
  · rw [upd_same, List.replicate_succ', List.map_append]
    rfl
section
variable {P : Program} {w : World} {K : PySem.W.Frag} {mg : Str → Option Value} {base : Heap} {f : Addr} {fd : FuncData}
theorem scSame : FnScope ["_law_got", "_law_goal", "_law_mine_so", "_law_own"] ["_law_got", "_law_goal"] (defScope (topS 13)) := ⟨rfl, rfl, rfl, by decide +kernel, rfl, by decide +kernel, by decide +kernel⟩
theorem ok_same {k : Nat} (B : Bts mg) (G : Has P w K mg base k "_law_same" ["_law_got", "_law_goal"] (spSame k)) (F : Fun K "_law_same" "_law_same" (topS 13) f fd) : FnOk P w K mg base CX0 (k + 1) f fd ["_law_got", "_law_goal"] (spSame (k + 1)) := by
  refine F.ok scSame (fun vs H Q E h => ?_) (fun cdv A outer s H vs Q E hr h => ?_)
  · obtain ⟨v1, v2, d, n, rfl, _⟩ := h
    rfl
  obtain ⟨v1, v2, d, n, rfl, hd1, hd2, hw, hn, q⟩ := h
  refine ⟨_, pss_cons (ps_if (pt_val (pe_callB call_isiT (by rfl) B.isi (by decide +kernel) (pa_cons (pv 1) (pa_cons (pe_tup (pa_cons (pe_bltn (v := .ty "list") (by rfl) B.list (by decide +kernel) rfl) (pa_cons (pe_bltn (v := .ty "tuple") (by rfl) B.tuple (by decide +kernel) rfl) pa_nil))) pa_nil))))
      (pss_cons (ps_if (PW.pt (pw_or (pt_cmpR op_ne (pe_callB call_isi (by rfl) B.isi (by decide +kernel) (pa_cons (pv 0) (pa_cons (pe_bltn (v := .ty "list") (by rfl) B.list (by decide +kernel) rfl) pa_nil))) (pe_callB call_isi (by rfl) B.isi (by decide +kernel) (pa_cons (pv 1) (pa_cons (pe_bltn (v := .ty "list") (by rfl) B.list (by decide +kernel) rfl) pa_nil))) (nomark _))
          (pw_or1 (pt_cmpR op_ne (pe_callB call_isi (by rfl) B.isi (by decide +kernel) (pa_cons (pv 0) (pa_cons (pe_bltn (v := .ty "tuple") (by rfl) B.tuple (by decide +kernel) rfl) pa_nil))) (pe_callB call_isi (by rfl) B.isi (by decide +kernel) (pa_cons (pv 1) (pa_cons (pe_bltn (v := .ty "tuple") (by rfl) B.tuple (by decide +kernel) rfl) pa_nil))) (nomark _)))))
          (pss_one (ps_ret pe_bl)) pss_nil)
        (pss_one (ps_ret (pe_and (pe_cmpR op_eq (pe_callB call_len_seq (by rfl) B.len PySem.boot_len (pa_cons (pv 0) pa_nil)) (pe_callB call_len_seq (by rfl) B.len PySem.boot_len (pa_cons (pv 1) pa_nil)) (nomark _))
          (pe_one (pe_callB (cr_all rfl) (by rfl) B.all (by decide +kernel) (pa_cons
            (pe_lc (own := [("_law_mine_so", 2), ("_law_own", 3)]) rfl scSame.nd (RZ.pi_zipA (by rfl) B.zip (pa_cons (pv 0) (pa_cons (pv 1) pa_nil)))
              (blkOk_by (own := [("_law_mine_so", 2), ("_law_own", 3)]) (N := ["_law_got", "_law_goal", "_law_mine_so", "_law_own"]) (sc := defScope (topS 13)) (by decide +kernel))
              (fun _ _ _ _ _ => show PG _ _ (gTup K 2 (gCons (gName 2) (gCons (gName 3) gNil))) from pg_tup rfl (pgs_cons (pg_name (i := 2) scSame.nd rfl (Or.inl rfl)) (pgs_cons (pg_name (i := 3) scSame.nd rfl (Or.inl rfl)) pgs_nil))) (fun _ _ _ _ _ => pts_nil)
              (fun _ _ _ _ _ => pe_has G hr (pa_cons (pv 2) (pa_cons (pv 3) pa_nil)))) pa_nil)))))))
      pss_nil)
    (pss_cons (ps_if (PW.pt (pw_or (pt_cmpR op_isN (pv 1) pe_non (nomark _)) (pw_or1 (pt_val (pe_callB call_isiT (by rfl) B.isi (by decide +kernel) (pa_cons (pv 1) (pa_cons (pe_tup (pa_cons (pe_bltn (v := .ty "bool") (by rfl) B.bool (by decide +kernel) rfl) (pa_cons (pe_bltn (v := .ty "str") (by rfl) B.str (by decide +kernel) rfl) pa_nil))) pa_nil)))))))
        (pss_one (ps_ret (pe_and (pe_cmpR op_eq (pv 0) (pv 1) (nomark _))
          (pe_and (pe_cmpR op_eq (pe_callB call_isi (by rfl) B.isi (by decide +kernel) (pa_cons (pv 0) (pa_cons (pe_bltn (v := .ty "bool") (by rfl) B.bool (by decide +kernel) rfl) pa_nil))) (pe_callB call_isi (by rfl) B.isi (by decide +kernel) (pa_cons (pv 1) (pa_cons (pe_bltn (v := .ty "bool") (by rfl) B.bool (by decide +kernel) rfl) pa_nil))) (nomark _))
          (pe_one (pe_cmpR op_eq (pe_cmpR op_isN (pv 0) pe_non (nomark _)) (pe_cmpR op_isN (pv 1) pe_non (nomark _)) (nomark _)))))))
        pss_nil)
    (pss_one (ps_ret (pe_and (pe_callB call_isi (by rfl) B.isi (by decide +kernel) (pa_cons (pv 0) (pa_cons (pe_bltn (v := .ty "int") (by rfl) B.int (by decide +kernel) rfl) pa_nil)))
      (pe_and (pe_not (pe_callB call_isi (by rfl) B.isi (by decide +kernel) (pa_cons (pv 0) (pa_cons (pe_bltn (v := .ty "bool") (by rfl) B.bool (by decide +kernel) rfl) pa_nil))))
      (pe_one (pe_cmpR op_eq (pv 0) (pv 1) (nomark _)))))))), ?_⟩
  refine ⟨_, rfl, (by show 2 ≤ sizeLine; decide), fun tp ntp => ?_⟩
  have s1 : Same H (upd H tp (.tup [.ty "list", .ty "tuple"])) := same_new ntp _
  refine ⟨_, tp, _, _, _, _, rfl, upd_same, .cons (.ty "list") (.cons (.ty "tuple") .nil), (hd2.mono s1).ty, kitAny2 (kit_lst d) (kit_tup d), _, rfl, ?_⟩
  generalize upd H tp (.tup [.ty "list", .ty "tuple"]) = H1 at s1 ⊢
  have k1 := hd1.mono s1
  have k2 := hd2.mono s1
  have seq : (isLst d || isTup d) = true → True := fun _ => trivial
  cases hd1 with
  | @lst a xs ds h1 h2 =>
    obtain ⟨m, rfl, hlen, hall⟩ := wf_list hw
    cases hd2 with
    | @lst b ys _ g1 g2 =>
      refine iteT ?_
      refine ⟨_, rfl, _, _, _, _, _, rfl, .ty "list", k1.ty, kit_lst _, _, rfl, _, _, _, _, _, rfl, .ty "list", k2.ty, kit_lst _, rfl, _, rfl, ?_⟩
      rw [decide_eq_true rfl]
      refine iteF ?_
      refine ⟨_, rfl, _, _, _, _, _, rfl, .ty "tuple", k1.ty, kit_tup _, _, rfl, _, _, _, _, _, rfl, .ty "tuple", k2.ty, kit_tup _, rfl, _, rfl, ?_⟩
      rw [decide_eq_true rfl]
      refine iteF ?_
      have ha := s1 _ _ h1
      have hb := s1 _ _ g1
      have l1 := h2.length
      have l2 := g2.length
      refine ⟨_, rfl, _, _, rfl, .inl (.of ha), _, rfl, _, _, rfl, .inl (.of hb), rfl, _, rfl, ?_⟩
      rw [l1, l2, decide_eq_true rfl]
      refine iteT ?_
      refine ⟨_, rfl, _, rfl, a, b, xs, ys, rfl, .inl ⟨.of ha, .of hb, fun D nD => ?_⟩⟩
      refine lc_zip (walk_zip (K := K) (a := a) (b := b) (xs := xs) (ys := ys) (by rw [l1, l2, Nat.min_self])) (fun H2 s2 => ⟨.of (s2 _ _ ha), .of (s2 _ _ hb)⟩) (h2.mono s1) (g2.mono s1) nD hlen (fun v u => rfl) (fun v u d H2 R hm hv hu s2 r => ?_) (fun H2 s2 hD => ?_)
      · exact ⟨_, rfl, _, rfl, v, u, d, m, rfl, hv, hu, hall d hm, by omega, r⟩
      · refine ⟨D, _, rfl, .of hD, ?_⟩
        rw [show (List.replicate ds.length true).all id = true by simp]
        exact q H2 (s1.trans s2)
  | @tup a xs ds h1 h2 =>
    obtain ⟨m, rfl, hlen, hall⟩ := wf_tuple hw
    cases hd2 with
    | @tup b ys _ g1 g2 =>
      refine iteT ?_
      refine ⟨_, rfl, _, _, _, _, _, rfl, .ty "list", k1.ty, kit_lst _, _, rfl, _, _, _, _, _, rfl, .ty "list", k2.ty, kit_lst _, rfl, _, rfl, ?_⟩
      rw [decide_eq_true rfl]
      refine iteF ?_
      refine ⟨_, rfl, _, _, _, _, _, rfl, .ty "tuple", k1.ty, kit_tup _, _, rfl, _, _, _, _, _, rfl, .ty "tuple", k2.ty, kit_tup _, rfl, _, rfl, ?_⟩
      rw [decide_eq_true rfl]
      refine iteF ?_
      have ha := s1 _ _ h1
      have hb := s1 _ _ g1
      have l1 := h2.length
      have l2 := g2.length
      refine ⟨_, rfl, _, _, rfl, .inr (.of ha), _, rfl, _, _, rfl, .inr (.of hb), rfl, _, rfl, ?_⟩
      rw [l1, l2, decide_eq_true rfl]
      refine iteT ?_
      refine ⟨_, rfl, _, rfl, a, b, xs, ys, rfl, .inr ⟨.of ha, .of hb, fun D nD => ?_⟩⟩
      refine lc_zip (walk_zipT (K := K) (a := a) (b := b) (xs := xs) (ys := ys) (by rw [l1, l2, Nat.min_self])) (fun H2 s2 => ⟨.of (s2 _ _ ha), .of (s2 _ _ hb)⟩) (h2.mono s1) (g2.mono s1) nD hlen (fun v u => rfl) (fun v u d H2 R hm hv hu s2 r => ?_) (fun H2 s2 hD => ?_)
      · exact ⟨_, rfl, _, rfl, v, u, d, m, rfl, hv, hu, hall d hm, by omega, r⟩
      · refine ⟨D, _, rfl, .of hD, ?_⟩
        rw [show (List.replicate ds.length true).all id = true by simp]
        exact q H2 (s1.trans s2)
  | non =>
    cases hd2
    refine iteF ?_
    refine ⟨_, rfl, rfl, _, rfl, ?_⟩
    rw [decide_eq_true rfl]
    refine iteT (iteT ?_)
    refine ⟨_, rfl, _, rfl, rfl, _, rfl, ?_⟩
    rw [decide_eq_true rfl]
    refine iteT ?_
    refine ⟨_, rfl, _, _, _, _, _, rfl, .ty "bool", k1.ty, kit_bl _, _, rfl, _, _, _, _, _, rfl, .ty "bool", k2.ty, kit_bl _, rfl, _, rfl, ?_⟩
    rw [decide_eq_true rfl]
    refine iteT ?_
    refine ⟨_, rfl, rfl, _, rfl, rfl, rfl, ?_⟩
    rw [decide_eq_true rfl]
    exact q H1 s1
  | bl b =>
    cases hd2
    refine iteF ?_
    refine ⟨_, rfl, rfl, _, rfl, ?_⟩
    rw [decide_eq_false (by intro z; cases z)]
    refine iteF ?_
    refine ⟨_, rfl, (by show 2 ≤ sizeLine; decide), fun tp2 ntp2 => ?_⟩
    have s2 : Same H1 (upd H1 tp2 (.tup [.ty "bool", .ty "str"])) := same_new ntp2 _
    refine ⟨_, tp2, _, _, _, _, rfl, upd_same, .cons (.ty "bool") (.cons (.ty "str") .nil), (k2.mono s2).ty, kitAny2 (kit_bl _) (kit_str _), _, rfl, ?_⟩
    refine iteT ?_
    refine ⟨_, rfl, _, rfl, rfl, _, rfl, ?_⟩
    rw [decide_eq_true rfl]
    refine iteT ?_
    refine ⟨_, rfl, _, _, _, _, _, rfl, .ty "bool", (k1.mono s2).ty, kit_bl _, _, rfl, _, _, _, _, _, rfl, .ty "bool", (k2.mono s2).ty, kit_bl _, rfl, _, rfl, ?_⟩
    rw [decide_eq_true rfl]
    refine iteT ?_
    refine ⟨_, rfl, rfl, _, rfl, rfl, rfl, ?_⟩
    rw [decide_eq_true rfl]
    exact q _ (s1.trans s2)
  | str x =>
    cases hd2
    refine iteF ?_
    refine ⟨_, rfl, rfl, _, rfl, ?_⟩
    rw [decide_eq_false (by intro z; cases z)]
    refine iteF ?_
    refine ⟨_, rfl, (by show 2 ≤ sizeLine; decide), fun tp2 ntp2 => ?_⟩
    have s2 : Same H1 (upd H1 tp2 (.tup [.ty "bool", .ty "str"])) := same_new ntp2 _
    refine ⟨_, tp2, _, _, _, _, rfl, upd_same, .cons (.ty "bool") (.cons (.ty "str") .nil), (k2.mono s2).ty, kitAny2 (kit_bl _) (kit_str _), _, rfl, ?_⟩
    refine iteT ?_
    refine ⟨_, rfl, _, rfl, rfl, _, rfl, ?_⟩
    rw [decide_eq_true rfl]
    refine iteT ?_
    refine ⟨_, rfl, _, _, _, _, _, rfl, .ty "bool", (k1.mono s2).ty, kit_bl _, _, rfl, _, _, _, _, _, rfl, .ty "bool", (k2.mono s2).ty, kit_bl _, rfl, _, rfl, ?_⟩
    rw [decide_eq_true rfl]
    refine iteT ?_
    refine ⟨_, rfl, rfl, _, rfl, rfl, rfl, ?_⟩
    rw [decide_eq_true rfl]
    exact q _ (s1.trans s2)
  | int i =>
    cases hd2
    refine iteF ?_
    refine ⟨_, rfl, rfl, _, rfl, ?_⟩
    rw [decide_eq_false (by intro z; cases z)]
    refine iteF ?_
    refine ⟨_, rfl, (by show 2 ≤ sizeLine; decide), fun tp2 ntp2 => ?_⟩
    have s2 : Same H1 (upd H1 tp2 (.tup [.ty "bool", .ty "str"])) := same_new ntp2 _
    refine ⟨_, tp2, _, _, _, _, rfl, upd_same, .cons (.ty "bool") (.cons (.ty "str") .nil), (k2.mono s2).ty, kitAny2 (kit_bl _) (kit_str _), _, rfl, ?_⟩
    refine iteF ?_
    refine ⟨_, rfl, _, _, _, _, _, rfl, .ty "int", (k1.mono s2).ty, kit_int _, _, rfl, ?_⟩
    refine iteT ?_
    refine ⟨_, rfl, _, _, _, _, _, rfl, .ty "bool", (k1.mono s2).ty, kit_bl _, _, rfl, _, rfl, ?_⟩
    refine iteT ?_
    refine ⟨_, rfl, _, rfl, rfl, ?_⟩
    rw [decide_eq_true rfl]
    exact q _ (s1.trans s2)
theorem same_none : FnOk P w K mg base CX0 0 f fd ["_law_got", "_law_goal"] (spSame 0) := by
  have no : ∀ vs H Q E, ¬ spSame 0 vs H Q E := fun vs H Q E h => by
    obtain ⟨v1, v2, d, n, _, _, _, _, h1, _⟩ := h
    omega
  exact ⟨fun vs H Q E h => absurd h (no vs H Q E), fun A outer s H args us vs Q E _ _ _ _ h => absurd h (no vs H Q E)⟩
theorem has_same (B : Bts mg) (F : Fun K "_law_same" "_law_same" (topS 13) f fd) (b : Binds K fd ["_law_got", "_law_goal"] []) (m : mg "_law_same" = some (.ref f)) : ∀ k : Nat, Has P w K mg base k "_law_same" ["_law_got", "_law_goal"] (spSame k)
  | 0 => ⟨f, fd, same_none, m, F.kp, b⟩
  | k + 1 => ⟨f, fd, ok_same B (has_same B F b m k) F, m, F.kp, b⟩
end
end Lf

set_option maxHeartbeats 4000000
namespace Lf
open PySem PySem.Spec PyProof.Rows L2

section
variable {P : Program} {w : World} {K : PySem.W.Frag} {mg : Str → Option Value} {base : Heap} {f : Addr} {fd : FuncData}
theorem scAsked : FnScope ["_law_bit", "_law_got"] ["_law_bit"] (defScope (topS 26)) := ⟨rfl, rfl, rfl, by decide +kernel, rfl, by decide +kernel, by decide +kernel⟩
theorem ok_asked (B : Bts mg) (g1 : Has P w K mg base 2 "is_pair" ["thing"] (spD twoD)) (g2 : Has P w K mg base 3 "is_pairs" ["thing"] (spD twosD)) (g3 : Has P w K mg base 4 "is_rule" ["thing"] (spD lawD)) (g4 : Has P w K mg base 4 "is_flood" ["thing"] (spD tideD))
    (l1 : Has P w K mg base 2 "_law_is_two" ["_law_bit"] (spD twoD)) (l2 : Has P w K mg base 3 "_law_is_twos" ["_law_bit"] (spD twosD)) (l3 : Has P w K mg base 4 "_law_is_law" ["_law_bit"] (spD lawD)) (l4 : Has P w K mg base 4 "_law_is_tide" ["_law_bit"] (spD tideD))
    (gS : Has P w K mg base 4 "_law_same" ["_law_got", "_law_goal"] (spSame 4)) (F : Fun K "_law_asked" "_law_asked" (topS 26) f fd) : FnOk P w K mg base CX0 5 f fd ["_law_bit"] (spD fun _ => true) := by
  refine F.ok scAsked (spD_len rfl) (fun cdv A outer s H vs Q E hr h => ?_)
  obtain ⟨v, d, n, rfl, hd, hw, hn, q⟩ := h
  refine ⟨_, pss_cons (ps_set (i := 1) scAsked.nd rfl (Or.inl rfl) (pe_lst (pa_cons (pe_has g1 (hr.mono (by decide)) (pa_cons (pv 0) pa_nil)) (pa_cons (pe_has g2 (hr.mono (by decide)) (pa_cons (pv 0) pa_nil)) (pa_cons (pe_has g3 hr (pa_cons (pv 0) pa_nil)) (pa_cons (pe_has g4 hr (pa_cons (pv 0) pa_nil)) pa_nil))))))
    (pss_one (ps_ret (pe_has gS hr (pa_cons (pv 1) (pa_cons (pe_lst (pa_cons (pe_has l1 (hr.mono (by decide)) (pa_cons (pv 0) pa_nil)) (pa_cons (pe_has l2 (hr.mono (by decide)) (pa_cons (pv 0) pa_nil)) (pa_cons (pe_has l3 hr (pa_cons (pv 0) pa_nil)) (pa_cons (pe_has l4 hr (pa_cons (pv 0) pa_nil)) pa_nil))))) pa_nil))))), ?_⟩
  refine ⟨_, rfl, v, d, n, rfl, hd, hw, hn, fun H1 s1 => ?_⟩
  refine ⟨_, rfl, v, d, n, rfl, hd.mono s1, hw, hn, fun H2 s2 => ?_⟩
  have s2 := s1.trans s2
  refine ⟨_, rfl, v, d, n, rfl, hd.mono s2, hw, hn, fun H3 s3 => ?_⟩
  have s3 := s2.trans s3
  refine ⟨_, rfl, v, d, n, rfl, hd.mono s3, hw, hn, fun H4 s4 => ?_⟩
  have s4 := s3.trans s4
  refine ⟨by show 4 ≤ sizeLine; decide, fun p np => ?_⟩
  have s5 := s4.trans (same_new np (.lst [.bl (twoD d), .bl (twosD d), .bl (lawD d), .bl (tideD d)]))
  have hp : upd H4 p (.lst [.bl (twoD d), .bl (twosD d), .bl (lawD d), .bl (tideD d)]) p = some (.lst [.bl (twoD d), .bl (twosD d), .bl (lawD d), .bl (tideD d)]) := upd_same
  refine ⟨_, rfl, ?_⟩
  show tCons (tLst _) tNil _ (upd H4 p (.lst [.bl (twoD d), .bl (twosD d), .bl (lawD d), .bl (tideD d)])) _
  generalize upd H4 p (.lst [.bl (twoD d), .bl (twosD d), .bl (lawD d), .bl (tideD d)]) = H5 at s5 hp ⊢
  refine ⟨_, rfl, v, d, n, rfl, hd.mono s5, hw, hn, fun H6 s6 => ?_⟩
  have t6 := s5.trans s6
  refine ⟨_, rfl, v, d, n, rfl, hd.mono t6, hw, hn, fun H7 s7 => ?_⟩
  have t7 := t6.trans s7
  refine ⟨_, rfl, v, d, n, rfl, hd.mono t7, hw, hn, fun H8 s8 => ?_⟩
  have t8 := t7.trans s8
  refine ⟨_, rfl, v, d, n, rfl, hd.mono t8, hw, hn, fun H9 s9 => ?_⟩
  have t9 := t8.trans s9
  refine ⟨by show 4 ≤ sizeLine; decide, fun p2 np2 => ?_⟩
  have s10 := same_new np2 (.lst [.bl (twoD d), .bl (twosD d), .bl (lawD d), .bl (tideD d)])
  have hp9 := (s6.trans (s7.trans (s8.trans (s9.trans s10)))) _ _ hp
  have al : ∀ H, DdAll H [.bl (twoD d), .bl (twosD d), .bl (lawD d), .bl (tideD d)] [.bool (twoD d), .bool (twosD d), .bool (lawD d), .bool (tideD d)] := fun H => .cons (.bl _) (.cons (.bl _) (.cons (.bl _) (.cons (.bl _) .nil)))
  refine ⟨_, _, _, 1, rfl, .lst hp9 (al _), .lst upd_same (al _), by simp [wf], by decide, fun H' s' => q H' (t9.trans (s10.trans s'))⟩

/-! ## draws -/
/-- at u the source of draws, good for n draws -/
def Urn (n : Nat) (u : Addr) (H : Hp) : Prop := ∃ a b c : Int, H u = some (.lst [.int a, .int b, .int c]) ∧ 0 ≤ a ∧ 0 ≤ b ∧ b < 2 ^ 62 ∧ 0 ≤ c ∧ c + n ≤ 1000000
theorem Urn.le {n m : Nat} {u : Addr} {H : Hp} (h : Urn n u H) (e : m ≤ n) : Urn m u H := by
  obtain ⟨a, b, c, h1, h2, h3, h4, h5, h6⟩ := h
  exact ⟨a, b, c, h1, h2, h3, h4, h5, by omega⟩
theorem Urn.same {n : Nat} {u : Addr} {H H' : Hp} (h : Urn n u H) (e : Same H H') : Urn n u H' := by
  obtain ⟨a, b, c, h1, h2⟩ := h
  exact ⟨a, b, c, e _ _ h1, h2⟩
theorem Urn.at {n : Nat} {u : Addr} {H : Hp} (h : Urn n u H) : ∃ o, H u = some o := by
  obtain ⟨a, b, c, h1, _⟩ := h
  exact ⟨_, h1⟩
/-- all but the source is as it was -/
abbrev Kept (u : Addr) (H H' : Hp) : Prop := Same (hide u H) (hide u H')
def spTake : Sp := fun vs H Q _ => ∃ u low n, vs = [.ref u, .int low] ∧ Urn (n + 1) u H ∧ 1 ≤ low ∧ low < 1000000 ∧ ∀ r H', 0 ≤ r → r < low → Kept u H H' → Urn n u H' → Q (.int r) H'
theorem kept_upd {u : Addr} {H : Hp} {o : HO} : Kept u H (upd H u o) := by
  show Same (hide u H) (hide u (upd H u o))
  rw [hide_upd]
  exact .refl _
theorem scTake : FnScope ["_law_urn", "_law_low_so", "_law_drawn", "_law_once", "_law_far", "_law_twice"] ["_law_urn", "_law_low_so"] (defScope (topS 10)) := ⟨rfl, rfl, rfl, by decide +kernel, rfl, by decide +kernel, by decide +kernel⟩
theorem ok_take (B : Bts mg) (F : Fun K "_law_take" "_law_take" (topS 10) f fd) : FnOk P w K mg base CX0 1 f fd ["_law_urn", "_law_low_so"] spTake := by
  refine F.ok scTake (fun vs H Q E h => ?_) (fun cdv A outer s H vs Q E hr h => ?_)
  · obtain ⟨u, low, n, rfl, _⟩ := h
    rfl
  obtain ⟨u, low, n, rfl, ⟨a, b, c, hu, ha, hb, hb2, hc, hcn⟩, hlow, hlow2, q⟩ := h
  refine ⟨_, pss_cons (ps_if (pt_cmpR op_gt (pe_ix ix_list (pv 0) pe_int (fun _ _ => rfl)) pe_int (nomark _))
      (pss_cons (ps_set (i := 2) scTake.nd rfl (Or.inl rfl) (pe_op op_mod (pe_callTy call_int1 (by rfl) B.int boot_int (pa_cons (pe_ix ix_list (pv 0) pe_int (fun _ _ => rfl)) pa_nil)) (pv 1)))
      (pss_cons (ps_asg (pe_op op_fdiv (pe_ix ix_list (pv 0) pe_int (fun _ _ => rfl)) (pv 1)) (pg_sub (pv 0) pe_int set_list))
      (pss_one (ps_ret (pv 2))))) pss_nil)
    (pss_cons (ps_asg (pe_op op_add (pe_ix ix_list (pv 0) pe_int (fun _ _ => rfl)) pe_int) (pg_sub (pv 0) pe_int set_list))
    (pss_cons (ps_set (i := 3) scTake.nd rfl (Or.inl rfl) (pe_op op_mod (pe_callTy call_int1 (by rfl) B.int boot_int (pa_cons (pe_op op_mul (pe_op op_add (pe_ix ix_list (pv 0) pe_int (fun _ _ => rfl)) (pe_op op_mul pe_int (pe_ix ix_list (pv 0) pe_int (fun _ _ => rfl)))) (pe_op op_add pe_int (pe_ix ix_list (pv 0) pe_int (fun _ _ => rfl)))) pa_nil)) pe_int))
    (pss_cons (ps_set (i := 4) scTake.nd rfl (Or.inl rfl) (pe_op op_add (pe_op op_mod (pe_callTy call_int1 (by rfl) B.int boot_int (pa_cons (pv 3) pa_nil)) pe_int) pe_int))
    (pss_cons (ps_set (i := 5) scTake.nd rfl (Or.inl rfl) (pe_op op_mod (pe_callTy call_int1 (by rfl) B.int boot_int (pa_cons (pe_op op_mul (pe_op op_add (pe_op op_add (pv 3) (pe_ix ix_list (pv 0) pe_int (fun _ _ => rfl))) (pe_op op_fdiv (pe_ix ix_list (pv 0) pe_int (fun _ _ => rfl)) pe_int)) (pv 4)) pa_nil)) pe_int))
    (pss_one (ps_ret (pe_op op_mod (pe_callTy call_int1 (by rfl) B.int boot_int (pa_cons (pe_op op_fdiv (pe_op op_mod (pe_callTy call_int1 (by rfl) B.int boot_int (pa_cons (pe_op op_add (pe_op op_mul (pv 5) pe_int) (pv 3)) pa_nil)) pe_int) pe_int) pa_nil)) (pv 1)))))))), ?_⟩
  refine ⟨_, rfl, u, _, _, _, rfl, rfl, .of hu, atI_nat (j := 0) rfl, _, _, rfl, rfl, _, rfl, ?_⟩
  refine ite2 (fun z => ?_) (fun z => ?_)
  · have z' : (0 : Int) < a := of_decide_eq_true z
    refine ⟨_, rfl, u, _, _, _, rfl, rfl, .of hu, atI_nat (j := 0) rfl, .inl ⟨_, rfl, _, rfl, _, _, rfl, rfl, by omega, ?_⟩⟩
    refine ⟨_, rfl, u, _, _, _, rfl, rfl, .of hu, atI_nat (j := 0) rfl, _, rfl, _, _, rfl, rfl, ⟨by omega, by omega⟩, _, rfl, u, _, _, 0, rfl, rfl, hu, rfl, ?_⟩
    refine ⟨_, rfl, ?_⟩
    refine q (a % low) _ (Int.emod_nonneg _ (by omega)) (Int.emod_lt_of_pos _ (by omega)) kept_upd ⟨a / low, b, c, upd_same, Int.ediv_nonneg ha (by omega), hb, hb2, hc, by omega⟩
  · refine ⟨_, rfl, u, _, _, _, rfl, rfl, .of hu, atI_nat (j := 2) rfl, _, _, rfl, rfl, _, rfl, u, _, _, 2, rfl, rfl, hu, rfl, ?_⟩
    have hu1 : upd H u (.lst ([V.int a, .int b, .int c].set 2 (.int (c + 1)))) u = some (.lst [.int a, .int b, .int (c + 1)]) := upd_same
    have kp : Kept u H (upd H u (.lst ([V.int a, .int b, .int c].set 2 (.int (c + 1))))) := kept_upd
    generalize upd H u (.lst ([V.int a, .int b, .int c].set 2 (.int (c + 1)))) = H1 at hu1 kp ⊢
    refine ⟨_, rfl, u, _, _, _, rfl, rfl, .of hu1, atI_nat (j := 1) rfl, _, rfl, u, _, _, _, rfl, rfl, .of hu1, atI_nat (j := 2) rfl, _, _, rfl, rfl, .inl ⟨by decide, by decide⟩, _, _, rfl, rfl,
      _, rfl, u, _, _, _, rfl, rfl, .of hu1, atI_nat (j := 2) rfl, _, _, rfl, rfl, _, _, rfl, rfl, .inr ⟨by omega, by omega⟩, .inl ⟨_, rfl, _, _, rfl, rfl, (show (0 : Int) < 2147483647 by decide), ?_⟩⟩
    generalize ((b + 48271 * (c + 1)) * (39373 + (c + 1))) % 2147483647 = x1
    refine ⟨_, rfl, .inl ⟨_, rfl, _, _, rfl, rfl, (show (0 : Int) < 40009 by decide), _, _, rfl, rfl, ?_⟩⟩
    have f1 : 0 ≤ x1 % 40009 := Int.emod_nonneg _ (by decide)
    have f2 : x1 % 40009 < 40009 := Int.emod_lt_of_pos _ (by decide)
    generalize x1 % 40009 = x2 at f1 f2
    refine ⟨_, rfl, _, rfl, u, _, _, _, rfl, rfl, .of hu1, atI_nat (j := 2) rfl, _, _, rfl, rfl, _, rfl, u, _, _, _, rfl, rfl, .of hu1, atI_nat (j := 1) rfl, _, _, rfl, rfl, ⟨by decide, by decide⟩, _, _, rfl, rfl, _, rfl, _, _, rfl, rfl, .inr ⟨by omega, by omega⟩, .inl ⟨_, rfl, _, _, rfl, rfl, (show (0 : Int) < 2147483629 by decide), ?_⟩⟩
    generalize ((x1 + (c + 1) + b / 1000003) * (x2 + 7)) % 2147483629 = x3
    refine ⟨_, rfl, _, _, rfl, rfl, .inr ⟨by decide, by decide⟩, _, rfl, _, _, rfl, rfl, .inl ⟨_, rfl, _, _, rfl, rfl, (show (0 : Int) < 2147483587 by decide), _, _, rfl, rfl, ⟨by decide, by decide⟩, .inl ⟨_, rfl, _, rfl, _, _, rfl, rfl, by omega, ?_⟩⟩⟩
    refine q _ _ (Int.emod_nonneg _ (by omega)) (Int.emod_lt_of_pos _ (by omega)) kp ⟨a, b, c + 1, hu1, ha, hb, hb2, by omega, by omega⟩

/-- one of the items of a list -/
def spOf : Sp := fun vs H Q _ => ∃ u l xs n, vs = [.ref u, .ref l] ∧ Urn (n + 1) u H ∧ hide u H l = some (.lst xs) ∧ xs ≠ [] ∧ xs.length ≤ 1000 ∧ ∀ v H', v ∈ xs → Kept u H H' → Urn n u H' → Q v H'
theorem scOf : FnScope ["_law_urn", "_law_some_so"] ["_law_urn", "_law_some_so"] (defScope (topS 12)) := ⟨rfl, rfl, rfl, by decide +kernel, rfl, by decide +kernel, by decide +kernel⟩
theorem ok_of (B : Bts mg) (gT : Has P w K mg base 1 "_law_take" ["_law_urn", "_law_low_so"] spTake) (F : Fun K "_law_of" "_law_of" (topS 12) f fd) : FnOk P w K mg base CX0 2 f fd ["_law_urn", "_law_some_so"] spOf := by
  refine F.ok scOf (fun vs H Q E h => ?_) (fun cdv A outer s H vs Q E hr h => ?_)
  · obtain ⟨u, l, xs, n, rfl, _⟩ := h
    rfl
  obtain ⟨u, l, xs, n, rfl, hu, hl, hne, hlen, q⟩ := h
  refine ⟨_, pss_one (ps_ret (pe_ix ix_list (pv 1) (pe_has gT hr (pa_cons (pv 0) (pa_cons (pe_callB call_len_seq (by rfl) B.len PySem.boot_len (pa_cons (pv 1) pa_nil)) pa_nil))) (fun _ _ => rfl))), ?_⟩
  have h0 : 0 < xs.length := by
    cases xs with
    | nil => exact absurd rfl hne
    | cons _ _ => simp
  refine ⟨_, rfl, _, rfl, _, rfl, _, _, rfl, .inl (.of (hide_sub _ _ hl)), u, _, n, rfl, hu, by omega, by omega, fun r H1 r0 r1 k1 u1 => ?_⟩
  have hi : r.toNat < xs.length := by omega
  refine ⟨_, _, _, _, rfl, rfl, .of (hide_sub _ _ (k1 _ _ hl)), at_of (j := r.toNat) (by omega) (List.getElem?_eq_getElem hi), ?_⟩
  exact q _ _ (List.getElem_mem hi) k1 u1
end
end Lf

set_option maxHeartbeats 4000000
namespace Lf
open PySem PySem.Spec PyProof.Rows L2

/-! ## sorted of data that are alike -/
theorem each_pair {H : Hp} {G : Value → V × PyData → Prop} (k : ∀ v d u, Dd H v d → RelV v u → G u (v, d)) : ∀ {ds : List PyData} {vs : List V} {us : List Value}, DdAll H vs ds → Vals vs us → PySem.W.EachIs G us (vs.zip ds)
  | [], _, _, h, r => by
    cases h
    cases r
    exact .nil
  | _ :: _, _, _, h, r => by
    cases h with
    | cons h1 h2 =>
      cases r with
      | cons r1 r2 => exact .cons (k _ _ _ h1 r1) (each_pair k h2 r2)
theorem vals_each : ∀ {us : List Value} {bs : List (V × PyData)}, PySem.W.EachIs (fun u (b : V × PyData) => RelV b.1 u) us bs → Vals (bs.map (·.1)) us
  | _, _, .nil => .nil
  | _, _, .cons h t => .cons h (vals_each t)
theorem zip_fst {α β : Type} : ∀ (xs : List α) (ys : List β), xs.length = ys.length → (xs.zip ys).map (·.1) = xs
  | [], _, _ => rfl
  | x :: xs, [], h => by cases h
  | x :: xs, y :: ys, h => by
    show x :: (xs.zip ys).map (·.1) = x :: xs
    rw [zip_fst xs ys (by simpa using h)]
theorem zip_snd {α β : Type} : ∀ (xs : List α) (ys : List β), xs.length = ys.length → (xs.zip ys).map (·.2) = ys
  | [], [], _ => rfl
  | [], y :: ys, h => by cases h
  | x :: xs, [], h => by cases h
  | x :: xs, y :: ys, h => by
    show y :: (xs.zip ys).map (·.2) = y :: ys
    rw [zip_snd xs ys (by simpa using h)]
section
variable {X : Cx}
def rSortedD (K : PySem.W.Frag) : List V → Hp → VK → Prop := fun vs H Q => ∃ a xs ds, vs = [V.ref a] ∧ SqL K H a xs ∧ DdAll H xs ds ∧ PySem.W.AllAlike ds ∧ PySem.W.Sortable ds ∧ (∀ d ∈ ds, d.depth ≤ 40) ∧
  ∀ ys p, ys.Perm xs → H p = none → Q (.ref p) (upd H p (.lst ys))
theorem cr_sortedD (hu : X.A.units + 64 < cLine) : CallR X (.builtin "sorted") (rSortedD X.K) := by
  intro pins s σ H vs us Q I r h
  obtain ⟨a, xs, ds, rfl, hs, hd, hal, hk, hdep, q⟩ := h
  obtain ⟨its, rv, hl, hz⟩ := I.list hs
  obtain ⟨u, rfl, ru⟩ := vals1 r
  obtain rfl : u = Value.ref a := ru
  have hlen := hd.length
  have e2 := zip_snd xs ds hlen
  have e1 := zip_fst xs ds hlen
  have hbl : (xs.zip ds).length = xs.length := by
    rw [List.length_zip, hlen, Nat.min_self]
  refine PySem.W.sorted_data (enc := fun b : V × PyData => b.2) (R := fun u b => RelV b.1 u) (bs := xs.zip ds) hl.isList (each_pair (H := H) (fun v d u _ r => r) hd rv)
    (each_pair (H := H) (fun v d u h r => Dp.reads I d v u h.dp r) hd rv) (by rw [e2]; exact hal) (by rw [e2]; exact hk) (by rw [hbl]; exact hz) (fun b hb => ?_) fun out ho eo => ?_
  · have hm : b.2 ∈ ds := by
      rw [← e2]
      exact List.mem_map.mpr ⟨b, hb, rfl⟩
    have := hdep _ hm
    omega
  · obtain ⟨ep, he'⟩ := PyProof.Rows.sortedAll_at s.heap its out.toArray
    have hv := vals_each eo
    have hp : (((xs.zip ds).mergeSort (PySem.W.dataLe false fun b : V × PyData => b.2)).map (·.1)).Perm xs := by
      have p1 := (List.mergeSort_perm (xs.zip ds) (PySem.W.dataLe false fun b : V × PyData => b.2)).map (·.1)
      rw [e1] at p1
      exact p1
    refine ⟨.ref _, upd H (s.heap.objs.size + 1) (.lst (((xs.zip ds).mergeSort (PySem.W.dataLe false fun b : V × PyData => b.2)).map (·.1))), I.laid (t' := s.toks) (fun _ _ => PyProof.Rows.sortedAll_old) (Nat.le_succ _) ⟨?_, out, ep, hv, ?_⟩, rfl, q _ _ hp (I.hok.fresh (Nat.le_succ _))⟩
    · rw [hp.length_eq]
      exact hz
    · exact he'
end

/-! ## mixed -/
theorem seqIx {i : Int} {n : Nat} (h0 : 0 ≤ i) (h1 : i < n) : seqIndex? i n = some i.toNat := by
  have e : ixN n i = some i.toNat := by
    unfold ixN
    rw [if_pos h0, if_pos h1]
  exact (ixN_seq e).1
/-- a new list of the same items, in some order; u is the source of draws -/
def spMixed : Sp := fun vs H Q _ => ∃ u l xs n, vs = [.ref u, .ref l] ∧ Urn (n + xs.length) u H ∧ hide u H l = some (.lst xs) ∧ xs.length ≤ 100 ∧
  ∀ ys p H', ys.Perm xs → Kept u H H' → Urn n u H' → hide u H' p = some (.lst ys) → Q (.ref p) H'
theorem ne_urn {n : Nat} {u p : Addr} {H : Hp} (h : Urn n u H) (hp : H p = none) : p ≠ u := by
  obtain ⟨o, e⟩ := h.at
  exact fun z => ne_of_none e hp z.symm
theorem erase_perm {α : Type} : ∀ (l : List α) (i : Nat) (h : i < l.length), (l[i] :: l.eraseIdx i).Perm l
  | x :: l, 0, _ => .refl _
  | x :: l, i + 1, h => by
    have h' : i < l.length := by simpa using h
    have ih := erase_perm l i h'
    show (l[i] :: x :: l.eraseIdx i).Perm (x :: l)
    exact (List.Perm.swap x l[i] _).trans (ih.cons x)
theorem kept_new {u r : Addr} {H H' : Hp} {o : HO} (k : Kept u H H') (nr : H r = none) : Kept u H (upd H' r o) := fun b x e => by
  have hb : b ≠ u := fun z => by
    rw [z, hide_at] at e
    cases e
  have e' : H b = some x := hide_sub _ _ e
  have hr : b ≠ r := ne_of_none e' nr
  rw [hide_ne hb, upd_ne hr, ← hide_ne (H := H') hb]
  exact k b x e
theorem Urn.upd {n : Nat} {u r : Addr} {H : Hp} {o : HO} (h : Urn n u H) (hne : r ≠ u) : Urn n u (upd H r o) := by
  obtain ⟨a, b, c, h1, h2⟩ := h
  exact ⟨a, b, c, (upd_ne hne.symm).trans h1, h2⟩
section
variable {P : Program} {w : World} {K : PySem.W.Frag} {mg : Str → Option Value} {base : Heap} {f : Addr} {fd : FuncData}
theorem scMixed : FnScope ["_law_urn", "_law_pool", "_law_rest_so", "_law_found", "_law_turn"] ["_law_urn", "_law_pool"] (defScope (topS 14)) := ⟨rfl, rfl, rfl, by decide +kernel, rfl, by decide +kernel, by decide +kernel⟩
theorem ok_mixed (B : Bts mg) (gT : Has P w K mg base 1 "_law_take" ["_law_urn", "_law_low_so"] spTake) (F : Fun K "_law_mixed" "_law_mixed" (topS 14) f fd) : FnOk P w K mg base CX0 2 f fd ["_law_urn", "_law_pool"] spMixed := by
  refine F.ok scMixed (fun vs H Q E h => ?_) (fun cdv A outer s H vs Q E hr h => ?_)
  · obtain ⟨u, l, xs, n, rfl, _⟩ := h
    rfl
  obtain ⟨u, l, xs, n, rfl, hu, hl, hlen, q⟩ := h
  refine ⟨_, pss_cons (ps_par (i := 2) (j := 3) rfl scMixed.nd rfl rfl (by decide) rfl rfl (pa_cons (pe_callTy call_list_of (by rfl) B.list (by decide +kernel) (pa_cons (pv 1) pa_nil)) (pa_cons (pe_lst pa_nil) pa_nil)) (by rfl))
    (pss_cons (ps_for PassesOwn.never rfl (pi_range1 (by rfl) B.range (pa_cons (pe_callB call_len_seq (by rfl) B.len PySem.boot_len (pa_cons (pv 1) pa_nil)) pa_nil)) (pg_name (i := 4) scMixed.nd rfl (Or.inl rfl))
      (pss_one (ps_expr (pe_bm PySem.F.plainAttrs_list PySem.F.slot_list_append PySem.F.type_list_append mt_append (pv 3) (pa_cons
        (pe_bm PySem.F.plainAttrs_list PySem.F.slot_list_pop PySem.F.type_list_pop mt_popAt (pv 2) (pa_cons (pe_has gT hr (pa_cons (pv 0) (pa_cons (pe_callB call_len_seq (by rfl) B.len PySem.boot_len (pa_cons (pv 2) pa_nil)) pa_nil))) pa_nil)) pa_nil)))))
    (pss_one (ps_ret (pv 3)))), ?_⟩
  have hl0 : H l = some (.lst xs) := hide_sub _ _ hl
  refine ⟨_, rfl, _, _, rfl, .inl (.of hl0), fun r nr => ⟨Nat.zero_le _, fun g ng => ?_⟩⟩
  have s1 : Same H (upd H r (.lst xs)) := same_new nr _
  have s2 := s1.trans (same_new ng (.lst []))
  have hgr : g ≠ r := fun e => by
    rw [e, upd_same] at ng
    cases ng
  have nru : r ≠ u := ne_urn hu nr
  have ngu : g ≠ u := ne_urn (hu.same s1) ng
  have e1 : upd (upd H r (.lst xs)) g (.lst []) r = some (.lst xs) := by rw [upd_ne hgr.symm, upd_same]
  have e2 : upd (upd H r (.lst xs)) g (.lst []) g = some (.lst []) := upd_same
  refine ⟨_, _, rfl, ?_⟩
  have hnr0 : H g = none := s1.free ng
  generalize upd (upd H r (.lst xs)) g (.lst []) = H1 at s2 e1 e2 ⊢
  refine ⟨_, rfl, _, _, rfl, .inl (.of (s2 _ _ hl0)), _, rfl, by omega, by omega, ?_⟩
  refine for_it (walk_range (lo := 0) (n := (xs.length : Int).toNat)) (fun i σ H2 => ∃ t rs fs, σ = [some (.ref u), some (.ref l), some (.ref r), some (.ref g), t] ∧ Kept u H H2 ∧ Urn (n + (xs.length - i)) u H2 ∧
      H2 r = some (.lst rs) ∧ H2 g = some (.lst fs) ∧ (fs ++ rs).Perm xs ∧ fs.length = i)
    ⟨none, xs, [], rfl, hide_mono s2, hu.same s2, e1, e2, .refl _, rfl⟩ (fun _ _ _ _ _ => trivial) (fun i x σ H2 H3 hi hP hY => ?_) (fun σ H2 hP => ?_)
  · obtain ⟨rfl, rfl⟩ := hY
    obtain ⟨t, rs, fs, rfl, kp, u2, hr2, hg2, pm, hf⟩ := hP
    have hl2 := pm.length_eq
    rw [List.length_append] at hl2
    have hi' : i < xs.length := by omega
    refine ⟨_, rfl, .inl ⟨rfl, _, .of hg2⟩, _, rfl, .inl ⟨rfl, _, .of hr2⟩, _, rfl, _, rfl, _, _, rfl, .inl (.of hr2), u, _, n + (xs.length - (i + 1)), rfl, u2.le (by omega), by omega, by omega, fun z H4 z0 z1 k4 u4 => ?_⟩
    have hr4 : H4 r = some (.lst rs) := hide_sub _ _ (k4 _ _ (hide_in nru hr2))
    have hg4 : H4 g = some (.lst fs) := hide_sub _ _ (k4 _ _ (hide_in ngu hg2))
    have hz : z.toNat < rs.length := by omega
    refine ⟨r, rs, z, z.toNat, rs[z.toNat], rfl, rfl, hr4, by omega, by omega, seqIx z0 z1, List.getElem?_eq_getElem hz, ?_⟩
    have hg5 : upd H4 r (.lst (rs.eraseIdx z.toNat)) g = some (.lst fs) := by rw [upd_ne hgr]; exact hg4
    refine ⟨g, fs, rs[z.toNat], rfl, rfl, hg5, small1000 (by omega), ?_⟩
    refine ⟨_, rs.eraseIdx z.toNat, fs ++ [rs[z.toNat]], rfl, ?_, ?_, ?_, upd_same, ?_, ?_⟩
    · exact kept_new (kept_new (kp.trans k4) nr) hnr0
    · exact (u4.upd nru).upd ngu
    · rw [upd_ne hgr.symm, upd_same]
    · refine List.Perm.trans ?_ pm
      rw [List.append_assoc]
      exact (erase_perm rs z.toNat hz).append_left fs
    · rw [List.length_append, hf]
      rfl
  · obtain ⟨t, rs, fs, rfl, kp, u2, hr2, hg2, pm, hf⟩ := hP
    have hl2 := pm.length_eq
    rw [List.length_append] at hl2
    have : rs = [] := by
      cases rs with
      | nil => rfl
      | cons _ _ =>
        simp at hl2
        omega
    subst this
    rw [List.append_nil] at pm
    exact ⟨_, rfl, q fs g H2 pm kp (u2.le (by omega)) (hide_in ngu hg2)⟩
end
end Lf

set_option maxHeartbeats 4000000
namespace Lf
open PySem PySem.Spec PyProof.Rows L2

/-! ## pairs of texts -/
/-- x is a tuple of these two texts -/
def Pz (H : Hp) (x : V) (p : Str × Str) : Prop := ∃ q, x = .ref q ∧ H q = some (.tup [.str p.1, .str p.2])
def okP (p : Str × Str) : Prop := wf 0 (.str p.1) = true ∧ wf 0 (.str p.2) = true
def Pr (H : Hp) (x : V) : Prop := ∃ p, Pz H x p ∧ okP p
def pairD (p : Str × Str) : PyData := .tuple [.str p.1, .str p.2]
theorem Pz.mono {H H' : Hp} {x : V} {p : Str × Str} (h : Pz H x p) (e : Same H H') : Pz H' x p := by
  obtain ⟨q, h1, h2⟩ := h
  exact ⟨q, h1, e _ _ h2⟩
theorem Pr.mono {H H' : Hp} {x : V} (h : Pr H x) (e : Same H H') : Pr H' x := by
  obtain ⟨p, h1, h2⟩ := h
  exact ⟨p, h1.mono e, h2⟩
theorem Pz.upd {H : Hp} {x : V} {p : Str × Str} {D : Addr} {a : List V} {o : HO} (h : Pz H x p) (hD : H D = some (.lst a)) : Pz (upd H D o) x p := by
  obtain ⟨q, h1, h2⟩ := h
  refine ⟨q, h1, ?_⟩
  rw [upd_ne (ne_of h2 hD (by intro z; cases z))]
  exact h2
theorem Pz.dd {H : Hp} {x : V} {p : Str × Str} (h : Pz H x p) : Dd H x (pairD p) := by
  obtain ⟨q, rfl, h2⟩ := h
  exact .tup h2 (.cons (.str _) (.cons (.str _) .nil))
theorem wf_pair {p : Str × Str} (h : okP p) (n : Nat) : wf (n + 1) (pairD p) = true := by
  have h1 := wf_mono 0 n _ (Nat.zero_le _) h.1
  have h2 := wf_mono 0 n _ (Nat.zero_le _) h.2
  simp [wf, pairD, h1, h2]
theorem prs_data {H : Hp} : ∀ {xs : List V}, (∀ x ∈ xs, Pr H x) → ∃ ps : List (Str × Str), DdAll H xs (ps.map pairD) ∧ ∀ p ∈ ps, okP p
  | [], _ => ⟨[], .nil, fun p hp => absurd hp (by simp)⟩
  | x :: xs, h => by
    obtain ⟨p, h1, h2⟩ := h x List.mem_cons_self
    obtain ⟨ps, h3, h4⟩ := prs_data fun y hy => h y (List.mem_cons_of_mem _ hy)
    refine ⟨p :: ps, .cons h1.dd h3, fun z hz => ?_⟩
    rcases List.mem_cons.mp hz with rfl | hz
    · exact h2
    · exact h4 z hz
theorem alike_pairs (ps : List (Str × Str)) : PySem.W.AllAlike (ps.map pairD) := .of fun p q => alike_strs _ _ _ _
theorem sortable_pairs (ps : List (Str × Str)) : PySem.W.Sortable (ps.map pairD) := .tuples fun p => ⟨_, _, rfl⟩
theorem depth_pairs (ps : List (Str × Str)) : ∀ d ∈ ps.map pairD, d.depth ≤ 40 := by
  intro d hd
  obtain ⟨p, _, rfl⟩ := List.mem_map.mp hd
  simp [pairD, PyData.depth, PyData.depthAll]
theorem wf_pairs {ps : List (Str × Str)} (h : ∀ p ∈ ps, okP p) (hl : ps.length ≤ 1000) (n : Nat) : wf (n + 2) (.tuple (ps.map pairD)) = true := by
  simp only [wf, Bool.and_eq_true, decide_eq_true_eq, List.all_eq_true, List.length_map]
  refine ⟨hl, fun d hd => ?_⟩
  obtain ⟨p, hp, rfl⟩ := List.mem_map.mp hd
  exact wf_pair (h p hp) n
theorem paired_upd {H : Hp} {xs : List V} {ps : List (Str × Str)} {D : Addr} {a : List V} {o : HO} (h : Paired (Pz H) xs ps) (hD : H D = some (.lst a)) : Paired (Pz (upd H D o)) xs ps := Paired.mapP h fun _ _ z => z.upd hD
theorem paired_mono {H H' : Hp} {xs : List V} {ps : List (Str × Str)} (h : Paired (Pz H) xs ps) (e : Same H H') : Paired (Pz H') xs ps := Paired.mapP h fun _ _ z => z.mono e
theorem paired_append {α β : Type} {F : α → β → Prop} : ∀ {xs ys : List α} {ps qs : List β}, Paired F xs ps → Paired F ys qs → Paired F (xs ++ ys) (ps ++ qs)
  | _, _, _, _, .nil, k => k
  | _, _, _, _, .cons h t, k => .cons h (paired_append t k)
theorem paired_get {α β : Type} {F : α → β → Prop} : ∀ {xs : List α} {ps : List β} {i : Nat} {x : α}, Paired F xs ps → xs[i]? = some x → ∃ p, ps[i]? = some p ∧ F x p
  | _, _, _, _, .nil, e => by simp at e
  | _, _, 0, _, .cons h _, e => by
    simp at e
    subst e
    exact ⟨_, rfl, h⟩
  | _, _, i + 1, _, .cons _ t, e => by
    simp at e
    obtain ⟨p, h1, h2⟩ := paired_get t e
    exact ⟨p, by simpa using h1, h2⟩

/-! ## data without lists -/
def wfT : Nat → PyData → Bool
  | _, .none => true
  | _, .bool _ => true
  | _, .int _ => true
  | _, .str x => PySem.PyData.canLay0 (.str x) && decide (x.length ≤ 1000)
  | n + 1, .tuple ds => decide (ds.length ≤ 500) && ds.all (wfT n)
  | _, _ => false
theorem wfT_tuple {n : Nat} {ds : List PyData} (h : wfT n (.tuple ds) = true) : ∃ m, n = m + 1 ∧ ds.length ≤ 500 ∧ ∀ d ∈ ds, wfT m d = true := by
  cases n with
  | zero => simp [wfT] at h
  | succ m =>
    simp only [wfT, Bool.and_eq_true, decide_eq_true_eq, List.all_eq_true] at h
    exact ⟨m, rfl, h.1, h.2⟩
theorem wfT_wf : ∀ (n : Nat) (d : PyData), wfT n d = true → wf n d = true
  | n, .none, _ => by cases n <;> rfl
  | n, .bool _, _ => by cases n <;> rfl
  | n, .int _, _ => by cases n <;> rfl
  | n, .str x, h => by cases n <;> exact h
  | n, .list ds, h => by cases n <;> simp [wfT] at h
  | 0, .tuple ds, h => by simp [wfT] at h
  | n + 1, .tuple ds, h => by
    obtain ⟨m, e, h1, h2⟩ := wfT_tuple h
    cases e
    simp only [wf, Bool.and_eq_true, decide_eq_true_eq, List.all_eq_true]
    exact ⟨by omega, fun d hd => wfT_wf n d (h2 d hd)⟩
  | n, .dict _, h => by cases n <;> simp [wfT] at h
theorem wfT_mono : ∀ (n m : Nat) (d : PyData), n ≤ m → wfT n d = true → wfT m d = true
  | n, m, .none, _, _ => by cases m <;> rfl
  | n, m, .bool _, _, _ => by cases m <;> rfl
  | n, m, .int _, _, _ => by cases m <;> rfl
  | n, m, .str x, _, h => by
    cases n <;> cases m <;> exact h
  | n, m, .list ds, hm, h => by cases n <;> simp [wfT] at h
  | n, m, .tuple ds, hm, h => by
    obtain ⟨k, e, h1, h2⟩ := wfT_tuple h
    cases m with
    | zero => omega
    | succ m =>
      simp only [wfT, Bool.and_eq_true, decide_eq_true_eq, List.all_eq_true]
      exact ⟨h1, fun d hd => wfT_mono k m d (by omega) (h2 d hd)⟩
  | n, m, .dict _, _, h => by cases n <;> simp [wfT] at h
termination_by n m d => n
decreasing_by all_goals omega
mutual
theorem Dd.updL {H : Hp} {D : Addr} {a : List V} {o : HO} (hD : H D = some (.lst a)) : ∀ (n : Nat) {d : PyData} {v : V}, wfT n d = true → Dd H v d → Dd (upd H D o) v d
  | n, .none, _, _, h => by cases h; exact .non
  | n, .bool _, _, _, h => by cases h; exact .bl _
  | n, .int _, _, _, h => by cases h; exact .int _
  | n, .str _, _, _, h => by cases h; exact .str _
  | n, .list ds, _, w, h => by cases n <;> simp [wfT] at w
  | 0, .tuple ds, _, w, h => by simp [wfT] at w
  | n + 1, .tuple ds, _, w, h => by
    cases h with
    | tup h1 h2 =>
      obtain ⟨m, e, _, w2⟩ := wfT_tuple w
      cases e
      exact .tup (by rw [upd_ne (ne_of h1 hD (by intro z; cases z))]; exact h1) (DdAll.updL hD n w2 h2)
  | n, .dict _, _, _, h => by cases h
theorem DdAll.updL {H : Hp} {D : Addr} {a : List V} {o : HO} (hD : H D = some (.lst a)) : ∀ (n : Nat) {ds : List PyData} {vs : List V}, (∀ d ∈ ds, wfT n d = true) → DdAll H vs ds → DdAll (upd H D o) vs ds
  | n, [], _, _, h => by cases h; exact .nil
  | n, d :: ds, _, w, h => by
    cases h with
    | cons h1 h2 => exact .cons (Dd.updL hD n (w d List.mem_cons_self) h1) (DdAll.updL hD n (fun e he => w e (List.mem_cons_of_mem _ he)) h2)
end
theorem wfT_pair {p : Str × Str} (h : okP p) (n : Nat) : wfT (n + 1) (pairD p) = true := by
  have h1 : wfT n (.str p.1) = true := by cases n <;> exact h.1
  have h2 : wfT n (.str p.2) = true := by cases n <;> exact h.2
  simp [wfT, pairD, h1, h2]
theorem wfT_pairs {ps : List (Str × Str)} (h : ∀ p ∈ ps, okP p) (hl : ps.length ≤ 500) (n : Nat) : wfT (n + 2) (.tuple (ps.map pairD)) = true := by
  simp only [wfT, Bool.and_eq_true, decide_eq_true_eq, List.all_eq_true, List.length_map]
  refine ⟨hl, fun d hd => ?_⟩
  obtain ⟨p, hp, rfl⟩ := List.mem_map.mp hd
  exact wfT_pair (h p hp) n

/-! ## some: a tuple of some pairs -/
def spSome : Sp := fun vs H Q _ => ∃ u l top xs n, vs = [.ref u, .ref l, .int top] ∧ Urn (n + xs.length + 1) u H ∧ hide u H l = some (.lst xs) ∧ xs.length ≤ 100 ∧ (∀ x ∈ xs, Pr (hide u H) x) ∧ 0 ≤ top ∧ top < 100 ∧
  ∀ v d H', Dd (hide u H') v d → wfT 4 d = true → Kept u H H' → Urn n u H' → Q v H'
theorem take_sub {α : Type} {xs ys : List α} {n : Nat} (pm : ys.Perm (xs.take n)) : ∀ y ∈ ys, y ∈ xs := fun y hy => List.mem_of_mem_take (pm.mem_iff.mp hy)
section
variable {P : Program} {w : World} {K : PySem.W.Frag} {mg : Str → Option Value} {base : Heap} {f : Addr} {fd : FuncData}
theorem scSome : FnScope ["_law_urn", "_law_pool", "_law_top"] ["_law_urn", "_law_pool", "_law_top"] (defScope (topS 18)) := ⟨rfl, rfl, rfl, by decide +kernel, rfl, by decide +kernel, by decide +kernel⟩
theorem ok_some (B : Bts mg) (gT : Has P w K mg base 1 "_law_take" ["_law_urn", "_law_low_so"] spTake) (gM : Has P w K mg base 2 "_law_mixed" ["_law_urn", "_law_pool"] spMixed) (F : Fun K "_law_some" "_law_some" (topS 18) f fd) : FnOk P w K mg base CX0 3 f fd ["_law_urn", "_law_pool", "_law_top"] spSome := by
  refine F.ok scSome (fun vs H Q E h => ?_) (fun cdv A outer s H vs Q E hr h => ?_)
  · obtain ⟨u, l, top, xs, n, rfl, _⟩ := h
    rfl
  obtain ⟨u, l, top, xs, n, rfl, hu, hl, hlen, hpr, ht0, ht1, q⟩ := h
  refine ⟨_, pss_one (ps_ret (pe_callTy call_tuple_of (by rfl) B.tuple (by decide +kernel) (pa_cons (pe_callB (cr_sortedD hr.units) (by rfl) B.sorted (by decide +kernel) (pa_cons
    (pe_slice sl_list (pe_has gM hr (pa_cons (pv 0) (pa_cons (pv 1) pa_nil))) po_none (po_some (pe_has gT (hr.mono (by decide)) (pa_cons (pv 0) (pa_cons (pe_op op_add (pv 2) pe_int) pa_nil))))) pa_nil)) pa_nil))), ?_⟩
  refine ⟨_, rfl, _, rfl, u, l, xs, n + 1, rfl, hu.le (by omega), hl, hlen, fun ys p1 H1 pm k1 u1 hp1 => ?_⟩
  refine ⟨_, rfl, _, rfl, _, _, rfl, rfl, u, _, n, rfl, u1, by omega, by omega, fun r H2 r0 r1 k2 u2 => ?_⟩
  refine ⟨r, rfl, p1, ys, rfl, .of (hide_sub _ _ (k2 _ _ hp1)), fun p2 np2 => ?_⟩
  have ec : cutV ys none (some r) = ys.take r.toNat := by
    have := cutV_to ys r.toNat
    rw [show ((r.toNat : Nat) : Int) = r by omega] at this
    exact this
  rw [ec]
  have s3 := same_new np2 (.lst (ys.take r.toNat))
  have k3 : Kept u H (upd H2 p2 (.lst (ys.take r.toNat))) := (k1.trans k2).trans (hide_mono s3)
  have u3 := u2.same s3
  have e3 : upd H2 p2 (.lst (ys.take r.toNat)) p2 = some (.lst (ys.take r.toNat)) := upd_same
  generalize upd H2 p2 (.lst (ys.take r.toNat)) = H3 at s3 k3 u3 e3 ⊢
  have pr3 : ∀ x ∈ xs, Pr (hide u H3) x := fun x hx => (hpr x hx).mono k3
  have sub : ∀ y ∈ ys.take r.toNat, y ∈ xs := fun y hy => pm.mem_iff.mp (List.mem_of_mem_take hy)
  obtain ⟨ps, dps, okps⟩ := prs_data (H := hide u H3) fun y hy => pr3 y (sub y hy)
  refine ⟨p2, _, _, rfl, .of e3, dps.mono hide_sub, alike_pairs ps, sortable_pairs ps, depth_pairs ps, fun zs p3 pm3 np3 => ?_⟩
  have s4 := same_new np3 (.lst zs)
  have k4 : Kept u H (upd H3 p3 (.lst zs)) := k3.trans (hide_mono s4)
  have u4 := u3.same s4
  have e4 : upd H3 p3 (.lst zs) p3 = some (.lst zs) := upd_same
  generalize upd H3 p3 (.lst zs) = H4 at s4 k4 u4 e4 ⊢
  refine ⟨p3, zs, rfl, .inl ⟨.of e4, fun p5 np5 => ?_⟩⟩
  have s5 := same_new np5 (.tup zs)
  have u5 := u4.same s5
  have k5 : Kept u H (upd H4 p5 (.tup zs)) := k4.trans (hide_mono s5)
  obtain ⟨qs, dqs, okqs⟩ := prs_data (H := hide u (upd H4 p5 (.tup zs))) (xs := zs) fun y hy => (hpr y (sub y (pm3.mem_iff.mp hy))).mono k5
  refine q (.ref p5) (.tuple (qs.map pairD)) _ (.tup (hide_in (ne_urn u4 np5) upd_same) dqs) (wfT_pairs okqs ?_ 2) k5 u5
  have l1 := dqs.length
  have l2 := pm3.length_eq
  have l3 := pm.length_eq
  rw [List.length_map] at l1
  rw [List.length_take] at l2
  omega

/-! ## cross, twos -/
def crossS (xs ys : List Str) : List (Str × Str) := xs.flatMap fun a => ys.map fun b => (a, b)
def spCross : Sp := fun vs H Q _ => ∃ (a b : Addr) (xs ys : List Str), vs = [.ref a, .ref b] ∧ H a = some (.lst (xs.map V.str)) ∧ H b = some (.lst (ys.map V.str)) ∧ xs.length ≤ 10 ∧ ys.length ≤ 10 ∧
  ∀ zs p H', Same H H' → H' p = some (.lst zs) → Paired (Pz H') zs (crossS xs ys) → Q (.ref p) H'
theorem cross_len (xs ys : List Str) : (crossS xs ys).length = xs.length * ys.length := by
  unfold crossS
  induction xs with
  | nil => simp
  | cons x xs ih =>
    rw [List.flatMap_cons, List.length_append, ih, List.length_map, List.length_cons, Nat.succ_mul]
    omega
theorem cross_snoc (xs ys : List Str) (x : Str) : crossS (xs ++ [x]) ys = crossS xs ys ++ ys.map fun b => (x, b) := by
  unfold crossS
  rw [List.flatMap_append, List.flatMap_singleton]
theorem str_get {xs : List Str} {i : Nat} {v : V} (h : (xs.map V.str)[i]? = some v) : ∃ x, xs[i]? = some x ∧ v = .str x := by
  rw [List.getElem?_map] at h
  cases e : xs[i]? with
  | none =>
    rw [e] at h
    cases h
  | some x =>
    rw [e] at h
    cases h
    exact ⟨x, rfl, rfl⟩
theorem take_next {α : Type} {xs : List α} {i : Nat} {x : α} (h : xs[i]? = some x) : xs.take (i + 1) = xs.take i ++ [x] := by
  rw [List.take_add_one, h]
  rfl
theorem scCross : FnScope ["_law_some_so", "_law_more_so", "_law_found", "_law_own", "_law_bit"] ["_law_some_so", "_law_more_so"] (defScope (topS 16)) := ⟨rfl, rfl, rfl, by decide +kernel, rfl, by decide +kernel, by decide +kernel⟩
theorem ok_cross (B : Bts mg) (F : Fun K "_law_cross" "_law_cross" (topS 16) f fd) : FnOk P w K mg base CX0 1 f fd ["_law_some_so", "_law_more_so"] spCross := by
  refine F.ok scCross (fun vs H Q E h => ?_) (fun cdv A outer s H vs Q E hr h => ?_)
  · obtain ⟨a, b, xs, ys, rfl, _⟩ := h
    rfl
  obtain ⟨a, b, xs, ys, rfl, ha, hb, hx, hy, q⟩ := h
  refine ⟨_, pss_cons (ps_set (i := 2) scCross.nd rfl (Or.inl rfl) (pe_lst pa_nil))
    (pss_cons (ps_for PassesOwn.never rfl (pi_list (pv 0)) (pg_name (i := 3) scCross.nd rfl (Or.inr rfl))
      (pss_one (ps_set (i := 2) scCross.nd rfl (Or.inl rfl) (pe_op op_cat (pv 2) (pe_lc (own := [("_law_bit", 4)]) (g := gName 4) rfl scCross.nd (pi_list (pv 1))
        (blkOk_by (own := [("_law_bit", 4)]) (N := ["_law_some_so", "_law_more_so", "_law_found", "_law_own", "_law_bit"]) (sc := defScope (topS 16)) (by decide +kernel))
        (fun _ _ _ _ _ => pg_name (i := 4) scCross.nd rfl (Or.inl rfl)) (fun _ _ _ _ _ => pts_nil)
        (fun _ _ _ _ _ => pe_tup (pa_cons (pv 3) (pa_cons (pv 4) pa_nil))))))))
    (pss_one (ps_ret (pv 2)))), ?_⟩
  refine ⟨Nat.zero_le _, fun g ng => ?_⟩
  have s1 := same_new ng (.lst [])
  have e1 : upd H g (.lst []) g = some (.lst []) := upd_same
  generalize upd H g (.lst []) = H1 at s1 e1 ⊢
  refine ⟨_, rfl, a, rfl, ⟨_, .of (s1 _ _ ha)⟩, ?_⟩
  refine for_it (walk_list (K := K) (a := a) (xs := xs.map V.str)) (fun i σ H2 => ∃ g zs t, σ = [some (.ref a), some (.ref b), some (.ref g), t, none] ∧ Same H H2 ∧ H2 g = some (.lst zs) ∧ Paired (Pz H2) zs (crossS (xs.take i) ys))
    ⟨g, [], none, rfl, s1, e1, .nil⟩ (fun i σ H2 _ hP => ?_) (fun i x σ H2 H3 hi hP hY => ?_) (fun σ H2 hP => ?_)
  · obtain ⟨g, zs, t, rfl, sm, _⟩ := hP
    exact .of (sm _ _ ha)
  · obtain ⟨rfl, hx1⟩ := hY
    obtain ⟨x, hxi, rfl⟩ := str_get hx1
    obtain ⟨g, zs, t, rfl, sm, hg, pz⟩ := hP
    have hz := Paired.length pz
    rw [cross_len, List.length_take] at hz
    have hz2 : zs.length ≤ 100 := by
      rw [hz]
      exact Nat.le_trans (Nat.mul_le_mul (Nat.le_trans (Nat.min_le_right _ _) hx) hy) (by decide)
    refine ⟨_, rfl, _, rfl, b, rfl, ⟨_, .of (sm _ _ hb)⟩, fun D nD => ?_⟩
    have hgD : g ≠ D := ne_of_none hg nD
    refine lc_it (walk_list (K := K) (a := b) (xs := ys.map V.str)) (fun j H4 => Same H3 H4 ∧ ∃ ws, H4 D = some (.lst ws) ∧ Paired (Pz H4) ws ((ys.take j).map fun b => (x, b)))
      ⟨same_new nD _, [], upd_same, .nil⟩ (fun j H4 _ hP => .of (hP.1 _ _ (sm _ _ hb))) (fun j y H4 H5 hj hP hY => ?_) (fun H4 hP => ?_)
    · obtain ⟨rfl, hy1⟩ := hY
      obtain ⟨y, hyj, rfl⟩ := str_get hy1
      obtain ⟨sm4, ws, hD, pw⟩ := hP
      refine ⟨rfl, yes ?_⟩
      rw [if_pos rfl]
      refine ⟨_, rfl, _, rfl, (by show 2 ≤ sizeLine; decide), fun p np => ?_⟩
      have s6 := same_new np (.tup [.str x, .str y])
      have hD6 := s6 _ _ hD
      refine ⟨ws, hD6, ?_, same_upd (sm4.trans s6) nD _, ws ++ [.ref p], upd_same, ?_⟩
      · have := Paired.length pw
        rw [List.length_map, List.length_take] at this
        exact small1000 (by omega)
      · rw [take_next hyj, List.map_append]
        refine Paired.snoc (paired_upd (paired_mono pw s6) hD6) ?_
        have : Pz (upd H5 p (.tup [.str x, .str y])) (.ref p) (x, y) := ⟨p, rfl, upd_same⟩
        exact this.upd hD6
    · obtain ⟨sm4, ws, hD, pw⟩ := hP
      rw [List.take_of_length_le (by rw [List.length_map]; exact Nat.le_refl _)] at pw
      have hw := Paired.length pw
      rw [List.length_map] at hw
      refine ⟨g, D, zs, ws, rfl, rfl, sm4 _ _ hg, hD, Nat.le_of_lt (small1000 (by omega)), fun p np => ?_⟩
      have s7 := same_new np (.lst (zs ++ ws))
      refine ⟨p, zs ++ ws, some (.str x), rfl, (sm.trans sm4).trans s7, upd_same, ?_⟩
      rw [take_next hxi, cross_snoc]
      exact paired_append (paired_mono pz (sm4.trans s7)) (paired_mono pw s7)
  · obtain ⟨g, zs, t, rfl, sm, hg, pz⟩ := hP
    rw [List.take_of_length_le (by rw [List.length_map]; exact Nat.le_refl _)] at pz
    exact ⟨_, rfl, q zs g H2 sm hg pz⟩

theorem rising_min : ∀ (r : List Str) (p : Str), risingS p r = true → ∀ x ∈ r, ¬ x.cps.toList < p.cps.toList
  | [], _, _, x, hx => absurd hx (by simp)
  | y :: r, p, h, x, hx => by
    simp only [risingS, Bool.and_eq_true, Bool.not_eq_true'] at h
    have h1 : ¬ y.cps.toList < p.cps.toList := by
      have := h.1
      rw [ltCps_eq] at this
      exact of_decide_eq_false this
    rcases List.mem_cons.mp hx with rfl | hx
    · exact h1
    · have h2 := rising_min r y h.2 x hx
      exact fun z => h1 (by
        have e1 : y.cps.toList ≤ x.cps.toList := h2
        exact List.lt_of_le_of_lt e1 z)
theorem str_lt_of {x y : Str} (h : ¬ x.cps.toList < y.cps.toList) (hne : x ≠ y) : y.cps.toList < x.cps.toList := by
  have h1 : y.cps.toList ≤ x.cps.toList := h
  rcases List.le_iff_lt_or_eq.mp h1 with z | z
  · exact z
  · exact absurd (PySem.W.str_of_cps z.symm) hne
def ltP (p : Str × Str) : Bool := decide (p.1.cps.toList < p.2.cps.toList)
theorem filter_len {α : Type} {p : α → Bool} {xs : List α} (h : ∀ x ∈ xs, p x = true) : (xs.filter p).length = xs.length := by
  rw [List.filter_eq_self.mpr h]
theorem twos_many {rs : List Str} (hs : sortedS rs = true) (hn : rs.Nodup) (hl : 3 ≤ rs.length) : 2 ≤ ((crossS rs rs).filter ltP).length := by
  match rs, hs, hn, hl with
  | x :: r, hs, hn, hl =>
    have hs' : risingS x r = true := hs
    have hlt : ∀ y ∈ r, ltP (x, y) = true := fun y hy => by
      have h1 := rising_min r x hs' y hy
      have h2 : y ≠ x := fun e => by
        subst e
        exact (List.nodup_cons.mp hn).1 hy
      exact decide_eq_true (str_lt_of h1 h2)
    have e : crossS (x :: r) (x :: r) = ((x, x) :: r.map fun b => (x, b)) ++ crossS r (x :: r) := by
      unfold crossS
      rw [List.flatMap_cons]
      rfl
    rw [e, List.filter_append, List.length_append, List.filter_cons]
    have e2 : ((r.map fun b => (x, b)).filter ltP).length = r.length := by
      rw [filter_len, List.length_map]
      intro z hz
      obtain ⟨y, hy, rfl⟩ := List.mem_map.mp hz
      exact hlt y hy
    have hl' : 2 ≤ r.length := by simpa using hl
    split
    · rw [List.length_cons]
      omega
    · omega
/-- all pairs of some unlike texts -/
def spTwos : Sp := fun vs H Q _ => ∃ (l : Addr) (ts : List Str), vs = [.ref l] ∧ H l = some (.lst (ts.map V.str)) ∧ 3 ≤ ts.length ∧ ts.length ≤ 8 ∧ ts.Nodup ∧ (∀ t ∈ ts, wf 0 (.str t) = true) ∧
  ∀ zs p H', Same H H' → H' p = some (.lst zs) → (∀ z ∈ zs, Pr H' z) → 2 ≤ zs.length → zs.length ≤ 100 → Q (.ref p) H'
theorem scTwos : FnScope ["_law_tags_here", "_law_row_so", "_law_own", "_law_far"] ["_law_tags_here"] (defScope (topS 17)) := ⟨rfl, rfl, rfl, by decide +kernel, rfl, by decide +kernel, by decide +kernel⟩
theorem ok_twos (B : Bts mg) (gC : Has P w K mg base 1 "_law_cross" ["_law_some_so", "_law_more_so"] spCross) (F : Fun K "_law_twos" "_law_twos" (topS 17) f fd) : FnOk P w K mg base CX0 2 f fd ["_law_tags_here"] spTwos := by
  refine F.ok scTwos (fun vs H Q E h => ?_) (fun cdv A outer s H vs Q E hr h => ?_)
  · obtain ⟨l, ts, rfl, _⟩ := h
    rfl
  obtain ⟨l, ts, rfl, hl, h3, h5, hnd, hok, q⟩ := h
  refine ⟨_, pss_cons (ps_set (i := 1) scTwos.nd rfl (Or.inl rfl) (pe_callB cr_sortedS (by rfl) B.sorted (by decide +kernel) (pa_cons (pv 0) pa_nil)))
    (pss_one (ps_ret (pe_lc (own := [("_law_own", 2), ("_law_far", 3)]) rfl scTwos.nd (pi_list (pe_has gC hr (pa_cons (pv 1) (pa_cons (pv 1) pa_nil))))
      (blkOk_by (own := [("_law_own", 2), ("_law_far", 3)]) (N := ["_law_tags_here", "_law_row_so", "_law_own", "_law_far"]) (sc := defScope (topS 17)) (by decide +kernel))
      (fun _ _ _ _ _ => show PG _ _ (gTup K 2 (gCons (gName 2) (gCons (gName 3) gNil))) from pg_tup rfl (pgs_cons (pg_name (i := 2) scTwos.nd rfl (Or.inl rfl)) (pgs_cons (pg_name (i := 3) scTwos.nd rfl (Or.inl rfl)) pgs_nil)))
      (fun _ _ _ _ _ => pts_one (pt_cmpR op_lt_str (pv 2) (pv 3) (nomark _)))
      (fun _ _ _ _ _ => pe_tup (pa_cons (pv 2) (pa_cons (pv 3) pa_nil)))))), ?_⟩
  refine ⟨_, rfl, l, ts, rfl, .of hl, by omega, fun rs p pm srt np => ?_⟩
  have s1 := same_new np (.lst (rs.map V.str))
  have e1 : upd H p (.lst (rs.map V.str)) p = some (.lst (rs.map V.str)) := upd_same
  generalize upd H p (.lst (rs.map V.str)) = H1 at s1 e1 ⊢
  have rl := pm.length_eq
  refine ⟨_, rfl, _, rfl, p, p, rs, rs, rfl, e1, e1, by omega, by omega, fun zs c H2 s2 hc pz => ?_⟩
  refine ⟨c, rfl, ⟨_, .of hc⟩, fun D nD => ?_⟩
  have hzl := Paired.length pz
  have hcl : (crossS rs rs).length ≤ 100 := by
    rw [cross_len]
    exact Nat.le_trans (Nat.mul_le_mul (show rs.length ≤ 10 by omega) (show rs.length ≤ 10 by omega)) (by decide)
  have okc : ∀ p ∈ crossS rs rs, okP p := fun p hp => by
    unfold crossS at hp
    obtain ⟨a, ha, hp⟩ := List.mem_flatMap.mp hp
    obtain ⟨b, hb, rfl⟩ := List.mem_map.mp hp
    exact ⟨hok a (pm.mem_iff.mp ha), hok b (pm.mem_iff.mp hb)⟩
  refine lc_it (walk_list (K := K) (a := c) (xs := zs)) (fun i H3 => Same H2 H3 ∧ ∃ ws, H3 D = some (.lst ws) ∧ Paired (Pz H3) ws (((crossS rs rs).take i).filter ltP))
    ⟨same_new nD _, [], upd_same, .nil⟩ (fun i H3 _ hP => .of (hP.1 _ _ hc)) (fun i z H3 H4 hi hP hY => ?_) (fun H3 hP => ?_)
  · obtain ⟨rfl, hz⟩ := hY
    obtain ⟨sm, ws, hD, pw⟩ := hP
    obtain ⟨pr, g1, t, rfl, ht⟩ := paired_get pz hz
    have ht4 := sm _ _ ht
    have hwl := Paired.length pw
    have hfl := List.length_filter_le ltP ((crossS rs rs).take i)
    rw [List.length_take] at hfl
    refine ⟨t, _, rfl, .of ht4, rfl, _, _, rfl, _, _, rfl, rfl, rfl, _, rfl, _, rfl, _, _, rfl, rfl, _, rfl, ?_⟩
    rw [take_next g1, List.filter_append, List.filter_cons]
    refine ite2 (fun c => ?_) (fun c => ?_)
    · have cp : ltP pr = true := c
      rw [if_pos cp]
      refine ⟨_, rfl, _, rfl, (by show 2 ≤ sizeLine; decide), fun n nn => ?_⟩
      have s6 := same_new nn (.tup [.str pr.1, .str pr.2])
      have hD6 := s6 _ _ hD
      refine ⟨ws, hD6, small1000 (by omega), same_upd (sm.trans s6) nD _, ws ++ [.ref n], upd_same, ?_⟩
      refine Paired.snoc (paired_upd (paired_mono pw s6) hD6) ?_
      have : Pz (upd H4 n (.tup [.str pr.1, .str pr.2])) (.ref n) pr := ⟨n, rfl, upd_same⟩
      exact this.upd hD6
    · have cp : ¬ ltP pr = true := c
      rw [if_neg cp]
      refine ⟨sm, ws, hD, ?_⟩
      simpa using pw
  · obtain ⟨sm, ws, hD, pw⟩ := hP
    rw [List.take_of_length_le (by omega)] at pw
    have hwl := Paired.length pw
    have hfl := List.length_filter_le ltP (crossS rs rs)
    have hm := twos_many srt (pm.nodup_iff.mpr hnd) (by omega)
    refine q ws D H3 (s1.trans (s2.trans sm)) hD (fun z hz => ?_) (by omega) (by omega)
    obtain ⟨i, hi⟩ := List.mem_iff_getElem?.mp hz
    obtain ⟨pr, g1, g2⟩ := paired_get pw hi
    exact ⟨pr, g2, okc pr (List.mem_filter.mp (List.mem_of_getElem? g1)).1⟩
end
end Lf

set_option maxHeartbeats 4000000
namespace Lf
open PySem PySem.Spec PyProof.Rows L2

/-- at l the unlike NAMEs ts; u is the source of draws -/
structure Tg (u : Addr) (H : Hp) (l : Addr) (ts : List Str) : Prop where
  at' : hide u H l = some (.lst (ts.map V.str))
  lo : 3 ≤ ts.length
  hi : ts.length ≤ 8
  nd : ts.Nodup
  ok : ∀ t ∈ ts, wf 0 (.str t) = true
theorem Tg.kept {u : Addr} {H H' : Hp} {l : Addr} {ts : List Str} (h : Tg u H l ts) (k : Kept u H H') : Tg u H' l ts := ⟨k _ _ h.at', h.lo, h.hi, h.nd, h.ok⟩
/-- some datum without lists -/
def Gd (H : Hp) (y : V) : Prop := ∃ d, Dd H y d ∧ wfT 5 d = true
theorem Gd.mono {H H' : Hp} {y : V} (h : Gd H y) (e : Same H H') : Gd H' y := by
  obtain ⟨d, h1, h2⟩ := h
  exact ⟨d, h1.mono e, h2⟩
theorem Gd.updL {H : Hp} {y : V} {D : Addr} {a : List V} {o : HO} (h : Gd H y) (hD : H D = some (.lst a)) : Gd (upd H D o) y := by
  obtain ⟨d, h1, h2⟩ := h
  exact ⟨d, h1.updL hD 5 h2, h2⟩
theorem hide_upd_ne {u g : Addr} {H : Hp} {o : HO} (h : g ≠ u) : hide u (upd H g o) = upd (hide u H) g o := by
  funext b
  by_cases hb : b = u
  · rw [hb, hide_at, upd_ne h.symm, hide_at]
  · rw [hide_ne hb]
    by_cases hg : b = g
    · rw [hg, upd_same, upd_same]
    · rw [upd_ne hg, upd_ne hg, hide_ne hb]
theorem Gd.put {u g : Addr} {H : Hp} {y : V} {a : List V} {o : HO} (h : Gd (hide u H) y) (hg : H g = some (.lst a)) (hne : g ≠ u) : Gd (hide u (upd H g o)) y := by
  rw [hide_upd_ne hne]
  exact h.updL (hide_in hne hg)
theorem Pr.hidden {n : Nat} {u : Addr} {H : Hp} {z : V} (h : Pr H z) (hu : Urn n u H) : Pr (hide u H) z := by
  obtain ⟨p, ⟨q, h1, h2⟩, h3⟩ := h
  obtain ⟨a, b, c, h4, _⟩ := hu
  exact ⟨p, ⟨q, h1, hide_in (ne_of h2 h4 (by intro z; cases z)) h2⟩, h3⟩
theorem ne_prs {n : Nat} {u p : Addr} {H : Hp} {zs : List V} (hu : Urn n u H) (hp : H p = some (.lst zs)) (hpr : ∀ z ∈ zs, Pr H z) : p ≠ u := by
  intro e
  obtain ⟨a, b, c, h4, _⟩ := hu
  rw [e, h4] at hp
  cases hp
  obtain ⟨p, ⟨q, h1, _⟩, _⟩ := hpr (.int a) (by simp)
  cases h1
theorem wfT_two {a b : PyData} {n : Nat} (h1 : wfT n a = true) (h2 : wfT n b = true) : wfT (n + 1) (.tuple [a, b]) = true := by
  show (decide ([a, b].length ≤ 500) && [a, b].all (wfT n)) = true
  rw [List.all_cons, List.all_cons, List.all_nil, h1, h2]
  rfl
theorem wfT_three {a b c : PyData} {n : Nat} (h1 : wfT n a = true) (h2 : wfT n b = true) (h3 : wfT n c = true) : wfT (n + 1) (.tuple [a, b, c]) = true := by
  show (decide ([a, b, c].length ≤ 500) && [a, b, c].all (wfT n)) = true
  rw [List.all_cons, List.all_cons, List.all_cons, List.all_nil, h1, h2, h3]
  rfl
def spRules : Sp := fun vs H Q _ => ∃ (u l : Addr) (top : Int) (ts : List Str) (n : Nat), vs = [.ref u, .ref l, .int top] ∧ Urn (n + 1100) u H ∧ Tg u H l ts ∧ 0 ≤ top ∧ top ≤ 5 ∧
  ∀ ys p H', hide u H' p = some (.lst ys) → (∀ y ∈ ys, Gd (hide u H') y) → ys.length ≤ 10 → Kept u H H' → Urn n u H' → Q (.ref p) H'
section
variable {P : Program} {w : World} {K : PySem.W.Frag} {mg : Str → Option Value} {base : Heap} {f : Addr} {fd : FuncData}
theorem scRules : FnScope ["_law_urn", "_law_tags_here", "_law_top", "_law_twos_here", "_law_found", "_law_turn", "_law_row_so", "_law_many_so"] ["_law_urn", "_law_tags_here", "_law_top"] (defScope (topS 19)) := ⟨rfl, rfl, rfl, by decide +kernel, rfl, by decide +kernel, by decide +kernel⟩
theorem ok_rules (B : Bts mg) (gT : Has P w K mg base 1 "_law_take" ["_law_urn", "_law_low_so"] spTake) (gM : Has P w K mg base 2 "_law_mixed" ["_law_urn", "_law_pool"] spMixed) (g2 : Has P w K mg base 2 "_law_twos" ["_law_tags_here"] spTwos)
    (F : Fun K "_law_rules" "_law_rules" (topS 19) f fd) : FnOk P w K mg base CX0 3 f fd ["_law_urn", "_law_tags_here", "_law_top"] spRules := by
  refine F.ok scRules (fun vs H Q E h => ?_) (fun cdv A outer s H vs Q E hr h => ?_)
  · obtain ⟨u, l, top, ts, n, rfl, _⟩ := h
    rfl
  obtain ⟨u, l, top, ts, n, rfl, hu, tg, ht0, ht1, q⟩ := h
  refine ⟨_, pss_cons (ps_par (i := 3) (j := 4) rfl scRules.nd rfl rfl (by decide) rfl rfl (pa_cons (pe_has g2 hr (pa_cons (pv 1) pa_nil)) (pa_cons (pe_lst pa_nil) pa_nil)) (by rfl))
    (pss_cons (ps_for PassesOwn.never rfl (pi_range1 (by rfl) B.range (pa_cons (pe_has gT (hr.mono (by decide)) (pa_cons (pv 0) (pa_cons (pe_op op_add (pv 2) pe_int) pa_nil))) pa_nil)) (pg_name (i := 5) scRules.nd rfl (Or.inl rfl))
      (pss_cons (ps_set (i := 6) scRules.nd rfl (Or.inl rfl) (pe_has gM hr (pa_cons (pv 0) (pa_cons (pv 3) pa_nil))))
      (pss_cons (ps_set (i := 7) scRules.nd rfl (Or.inl rfl) (pe_op op_add pe_int (pe_has gT (hr.mono (by decide)) (pa_cons (pv 0) (pa_cons (pe_callB (call_min2 rfl) (by rfl) B.min (by decide +kernel) (pa_cons pe_int (pa_cons (pe_op op_sub (pe_callB call_len_seq (by rfl) B.len PySem.boot_len (pa_cons (pv 3) pa_nil)) pe_int) pa_nil))) pa_nil)))))
      (pss_one (ps_expr (pe_bm PySem.F.plainAttrs_list PySem.F.slot_list_append PySem.F.type_list_append mt_append (pv 4) (pa_cons (pe_tup
        (pa_cons (pe_callTy call_tuple_of (by rfl) B.tuple (by decide +kernel) (pa_cons (pe_callB (cr_sortedD hr.units) (by rfl) B.sorted (by decide +kernel) (pa_cons (pe_slice sl_list (pv 6) po_none (po_some (pv 7))) pa_nil)) pa_nil))
          (pa_cons (pe_ix ix_list (pv 6) (pv 7) (fun _ _ => rfl)) pa_nil))) pa_nil)))))))
    (pss_one (ps_ret (pv 4)))), ?_⟩
  refine ⟨_, rfl, l, ts, rfl, hide_sub _ _ tg.at', tg.lo, tg.hi, tg.nd, tg.ok, fun zs p Ha sa hp hpr hz2 hz100 => ?_⟩
  have ua := hu.same sa
  have hpu : p ≠ u := ne_prs ua hp hpr
  have hprh : ∀ z ∈ zs, Pr (hide u Ha) z := fun z hz => (hpr z hz).hidden ua
  refine ⟨Nat.zero_le _, fun g ng => ?_⟩
  have hgu : g ≠ u := ne_urn ua ng
  have sb := same_new ng (.lst [])
  have eb : upd Ha g (.lst []) g = some (.lst []) := upd_same
  generalize upd Ha g (.lst []) = Hb at sb eb ⊢
  refine ⟨_, _, rfl, ?_⟩
  refine ⟨_, rfl, _, rfl, _, _, rfl, rfl, u, _, n + 1000, rfl, (ua.same sb).le (by omega), by omega, by omega, fun r Hc r0 r1 kc uc => ?_⟩
  refine ⟨r, rfl, by omega, by omega, ?_⟩
  have kac : Kept u Ha Hc := (hide_mono sb).trans kc
  have ec : Hc g = some (.lst []) := hide_sub _ _ (kc _ _ (hide_in hgu eb))
  refine for_it (walk_range (lo := 0) (n := r.toNat)) (fun i σ H2 => ∃ t5 t6 t7 ys, σ = [some (.ref u), some (.ref l), some (.int top), some (.ref p), some (.ref g), t5, t6, t7] ∧ Kept u Ha H2 ∧ Urn (n + 102 * (r.toNat - i)) u H2 ∧
      H2 g = some (.lst ys) ∧ ys.length = i ∧ ∀ y ∈ ys, Gd (hide u H2) y)
    ⟨none, none, none, [], rfl, kac, uc.le (by omega), ec, rfl, fun y hy => absurd hy (by simp)⟩ (fun _ _ _ _ _ => trivial) (fun i x σ H2 H3 hi hP hY => ?_) (fun σ H2 hP => ?_)
  · obtain ⟨rfl, rfl⟩ := hY
    obtain ⟨t5, t6, t7, ys, rfl, k2, u2, hg2, hyl, hgd⟩ := hP
    refine ⟨_, rfl, _, rfl, u, p, zs, n + 102 * (r.toNat - (i + 1)) + 1, rfl, u2.le (by omega), k2 _ _ (hide_in hpu hp), hz100, fun ms m H4 pm k4 u4 hm => ?_⟩
    have hpl : H4 p = some (.lst zs) := hide_sub _ _ (k4 _ _ (k2 _ _ (hide_in hpu hp)))
    refine ⟨_, rfl, _, rfl, _, _, rfl, .inl (.of hpl), _, _, rfl, rfl, _, _, rfl, u, _, n + 102 * (r.toNat - (i + 1)), rfl, u4, ?_, ?_, fun c H5 c0 c1 k5 u5 => ?_⟩
    · split <;> omega
    · split <;> omega
    have hc : c < (zs.length : Int) - 1 := by
      have := c1
      split at this <;> omega
    refine ⟨_, _, rfl, rfl, ?_⟩
    have hml := pm.length_eq
    have k35 : Kept u H3 H5 := k4.trans k5
    have hm5 : H5 m = some (.lst ms) := hide_sub _ _ (k5 _ _ hm)
    have hg5 : H5 g = some (.lst ys) := hide_sub _ _ (k35 _ _ (hide_in hgu hg2))
    have pr5 : ∀ z ∈ ms, Pr (hide u H5) z := fun z hz => (hprh z (pm.mem_iff.mp hz)).mono (k2.trans k35)
    refine ⟨_, rfl, .inl ⟨rfl, _, .of hg5⟩, _, rfl, _, rfl, _, rfl, m, ms, rfl, .of hm5, fun p2 np2 => ?_⟩
    have ecut : cutV ms none (some (1 + c)) = ms.take (1 + c).toNat := by
      have := cutV_to ms (1 + c).toNat
      rw [show (((1 + c).toNat : Nat) : Int) = 1 + c by omega] at this
      exact this
    rw [ecut]
    have s6 := same_new np2 (.lst (ms.take (1 + c).toNat))
    have e6 : upd H5 p2 (.lst (ms.take (1 + c).toNat)) p2 = some (.lst (ms.take (1 + c).toNat)) := upd_same
    generalize upd H5 p2 (.lst (ms.take (1 + c).toNat)) = H6 at s6 e6 ⊢
    obtain ⟨ps, dps, okps⟩ := prs_data (H := hide u H6) (xs := ms.take (1 + c).toNat) fun y hy => (pr5 y (List.mem_of_mem_take hy)).mono (hide_mono s6)
    refine ⟨p2, _, _, rfl, .of e6, dps.mono hide_sub, alike_pairs ps, sortable_pairs ps, depth_pairs ps, fun ss p3 pm3 np3 => ?_⟩
    have s7 := s6.trans (same_new np3 (.lst ss))
    have e7 : upd H6 p3 (.lst ss) p3 = some (.lst ss) := upd_same
    generalize upd H6 p3 (.lst ss) = H7 at s7 e7 ⊢
    refine ⟨p3, ss, rfl, .inl ⟨.of e7, fun p4 np4 => ?_⟩⟩
    have s8 := s7.trans (same_new np4 (.tup ss))
    have e8 : upd H7 p4 (.tup ss) p4 = some (.tup ss) := upd_same
    have u7 := u5.same s7
    have hp4 : p4 ≠ u := ne_urn u7 np4
    generalize upd H7 p4 (.tup ss) = H8 at s8 e8 ⊢
    have hcn : (1 + c).toNat < ms.length := by omega
    have pr8 : ∀ z ∈ ms, Pr (hide u H8) z := fun z hz => (pr5 z hz).mono (hide_mono s8)
    refine ⟨_, rfl, _, rfl, m, ms, _, ms[(1 + c).toNat], rfl, rfl, .of (s8 _ _ hm5), at_of (j := (1 + c).toNat) (by omega) (List.getElem?_eq_getElem hcn), (by show 2 ≤ sizeLine; decide), fun p5 np5 => ?_⟩
    have u8 := u5.same s8
    have hp5 : p5 ≠ u := ne_urn u8 np5
    have s9 := s8.trans (same_new np5 (.tup [.ref p4, ms[(1 + c).toNat]]))
    have hgd9 : Gd (hide u (upd H8 p5 (.tup [.ref p4, ms[(1 + c).toNat]]))) (.ref p5) := by
      have s89 := hide_mono (u := u) (same_new np5 (.tup [.ref p4, ms[(1 + c).toNat]]))
      obtain ⟨qs, dqs, okqs⟩ := prs_data (H := hide u H8) (xs := ss) fun y hy => pr8 y (List.mem_of_mem_take (pm3.mem_iff.mp hy))
      obtain ⟨pz, hpz, okpz⟩ := pr8 _ (List.getElem_mem hcn)
      have l1 := dqs.length
      have l2 := pm3.length_eq
      rw [List.length_map] at l1
      rw [List.length_take] at l2
      refine ⟨.tuple [.tuple (qs.map pairD), pairD pz], .tup (hide_in hp5 upd_same) (.cons (Dd.mono s89 (.tup (hide_in hp4 e8) dqs)) (.cons (hpz.dd.mono s89) .nil)), ?_⟩
      have w1 := wfT_pairs okqs (by omega) 2
      have w2 := wfT_pair okpz 3
      exact wfT_two w1 w2
    have e9 : upd H8 p5 (.tup [.ref p4, ms[(1 + c).toNat]]) g = some (.lst ys) := same_new np5 _ _ _ (s8 _ _ hg5)
    generalize upd H8 p5 (.tup [.ref p4, ms[(1 + c).toNat]]) = H9 at s9 e9 hgd9 ⊢
    have k39 : Kept u H3 H9 := k35.trans (hide_mono s9)
    refine ⟨g, ys, .ref p5, rfl, rfl, e9, small1000 (by omega), ?_⟩
    refine ⟨_, _, _, ys ++ [.ref p5], rfl, kept_new (k2.trans k39) ng, (u5.same s9).upd hgu, upd_same, by rw [List.length_append, hyl]; rfl, fun y hy => ?_⟩
    rcases List.mem_append.mp hy with hy | hy
    · exact ((hgd y hy).mono k39).put e9 hgu
    · have : y = .ref p5 := by simpa using hy
      rw [this]
      exact hgd9.put e9 hgu
  · obtain ⟨t5, t6, t7, ys, rfl, k2, u2, hg2, hyl, hgd⟩ := hP
    refine ⟨_, rfl, q ys g H2 (hide_in hgu hg2) hgd (by omega) ?_ (u2.le (by omega))⟩
    exact (hide_mono sa).trans k2
end
end Lf

set_option maxHeartbeats 4000000
namespace Lf
open PySem PySem.Spec PyProof.Rows L2

section
variable {P : Program} {w : World} {K : PySem.W.Frag} {mg : Str → Option Value} {base : Heap} {f : Addr} {fd : FuncData}
theorem scWaters : FnScope ["_law_urn", "_law_tags_here", "_law_top", "_law_twos_here", "_law_signs", "_law_found", "_law_k"] ["_law_urn", "_law_tags_here", "_law_top"] (defScope (topS 20)) := ⟨rfl, rfl, rfl, by decide +kernel, rfl, by decide +kernel, by decide +kernel⟩
theorem ok_waters (B : Bts mg) (gT : Has P w K mg base 1 "_law_take" ["_law_urn", "_law_low_so"] spTake) (gM : Has P w K mg base 2 "_law_mixed" ["_law_urn", "_law_pool"] spMixed) (g2 : Has P w K mg base 2 "_law_twos" ["_law_tags_here"] spTwos) (gS : Has P w K mg base 3 "_law_some" ["_law_urn", "_law_pool", "_law_top"] spSome)
    (F : Fun K "_law_waters" "_law_waters" (topS 20) f fd) : FnOk P w K mg base CX0 4 f fd ["_law_urn", "_law_tags_here", "_law_top"] spRules := by
  refine F.ok scWaters (fun vs H Q E h => ?_) (fun cdv A outer s H vs Q E hr h => ?_)
  · obtain ⟨u, l, top, ts, n, rfl, _⟩ := h
    rfl
  obtain ⟨u, l, top, ts, n, rfl, hu, tg, ht0, ht1, q⟩ := h
  refine ⟨_, pss_cons (ps_par (i := 3) (j := 4) rfl scWaters.nd rfl rfl (by decide) rfl rfl (pa_cons (pe_has g2 (hr.mono (by decide)) (pa_cons (pv 1) pa_nil)) (pa_cons (pe_has gM (hr.mono (by decide)) (pa_cons (pv 0) (pa_cons (pe_lst (pa_cons pe_str (pa_cons pe_str (pa_cons pe_str (pa_cons pe_str (pa_cons pe_str (pa_cons pe_str pa_nil))))))) pa_nil))) pa_nil)) (by rfl))
    (pss_cons (ps_set (i := 5) scWaters.nd rfl (Or.inl rfl) (pe_lst pa_nil))
    (pss_cons (ps_for PassesOwn.never rfl (pi_range1 (by rfl) B.range (pa_cons (pe_has gT (hr.mono (by decide)) (pa_cons (pv 0) (pa_cons (pe_op op_add (pv 2) pe_int) pa_nil))) pa_nil)) (pg_name (i := 6) scWaters.nd rfl (Or.inl rfl))
      (pss_one (ps_expr (pe_bm PySem.F.plainAttrs_list PySem.F.slot_list_append PySem.F.type_list_append mt_append (pv 5) (pa_cons (pe_tup
        (pa_cons (pe_ix ix_list (pv 4) (pv 6) (fun _ _ => rfl))
          (pa_cons (pe_has gS hr (pa_cons (pv 0) (pa_cons (pv 3) (pa_cons pe_int pa_nil))))
          (pa_cons (pe_has gS hr (pa_cons (pv 0) (pa_cons (pv 3) (pa_cons pe_int pa_nil)))) pa_nil)))) pa_nil)))))
    (pss_one (ps_ret (pv 5))))), ?_⟩
  refine ⟨_, rfl, l, ts, rfl, hide_sub _ _ tg.at', tg.lo, tg.hi, tg.nd, tg.ok, fun zs p Ha sa hp hpr hz2 hz100 => ?_⟩
  have ua := hu.same sa
  have hpu : p ≠ u := ne_prs ua hp hpr
  have hprh : ∀ z ∈ zs, Pr (hide u Ha) z := fun z hz => (hpr z hz).hidden ua
  refine ⟨_, rfl, (by show 6 ≤ sizeLine; decide), fun g0 ng0 => ?_⟩
  have hg0 : g0 ≠ u := ne_urn ua ng0
  have s0 := same_new ng0 (.lst [.str "a", .str "high", .str "low", .str "x", .str "zz", .str "abcdefgh"])
  have e0 : upd Ha g0 (.lst [.str "a", .str "high", .str "low", .str "x", .str "zz", .str "abcdefgh"]) g0 = some (.lst [.str "a", .str "high", .str "low", .str "x", .str "zz", .str "abcdefgh"]) := upd_same
  generalize upd Ha g0 (.lst [.str "a", .str "high", .str "low", .str "x", .str "zz", .str "abcdefgh"]) = H0 at s0 e0 ⊢
  refine ⟨u, g0, [.str "a", .str "high", .str "low", .str "x", .str "zz", .str "abcdefgh"], n + 1094, rfl, ua.same s0, hide_in hg0 e0, by decide, fun sg qa H1 pm k1 u1 hq => ?_⟩
  refine ⟨_, _, rfl, ?_⟩
  have hsg : ∀ v ∈ sg, ∃ t : Str, v = .str t ∧ wf 0 (.str t) = true := by
    intro v hv
    have hm := pm.mem_iff.mp hv
    simp only [List.mem_cons, List.not_mem_nil, or_false] at hm
    rcases hm with rfl | rfl | rfl | rfl | rfl | rfl <;> exact ⟨_, rfl, by decide +kernel⟩
  have ka1 : Kept u Ha H1 := (hide_mono s0).trans k1
  refine ⟨Nat.zero_le _, fun g ng => ?_⟩
  have hgu : g ≠ u := ne_urn u1 ng
  have sb := same_new ng (.lst [])
  have eb : upd H1 g (.lst []) g = some (.lst []) := upd_same
  generalize upd H1 g (.lst []) = Hb at sb eb ⊢
  refine ⟨_, rfl, _, rfl, _, _, rfl, rfl, u, _, n + 1050, rfl, (u1.same sb).le (by omega), by omega, by omega, fun r Hc r0 r1 kc uc => ?_⟩
  refine ⟨r, rfl, by omega, by omega, ?_⟩
  have k1c : Kept u H1 Hc := (hide_mono sb).trans kc
  have ec : Hc g = some (.lst []) := hide_sub _ _ (kc _ _ (hide_in hgu eb))
  have hsl := pm.length_eq
  have hsl6 : sg.length = 6 := by rw [hsl]; rfl
  refine for_it (walk_range (lo := 0) (n := r.toNat)) (fun i σ H2 => ∃ t6 ys, σ = [some (.ref u), some (.ref l), some (.int top), some (.ref p), some (.ref qa), some (.ref g), t6] ∧ Kept u H1 H2 ∧ Urn (n + 210 * (r.toNat - i)) u H2 ∧
      H2 g = some (.lst ys) ∧ ys.length = i ∧ ∀ y ∈ ys, Gd (hide u H2) y)
    ⟨none, [], rfl, k1c, uc.le (by omega), ec, rfl, fun y hy => absurd hy (by simp)⟩ (fun _ _ _ _ _ => trivial) (fun i x σ H2 H3 hi hP hY => ?_) (fun σ H2 hP => ?_)
  · obtain ⟨rfl, rfl⟩ := hY
    obtain ⟨t6, ys, rfl, k2, u2, hg2, hyl, hgd⟩ := hP
    have hi6 : i < sg.length := by omega
    obtain ⟨nm, enm, wnm⟩ := hsg _ (List.getElem_mem hi6)
    have kp3 : hide u H3 p = some (.lst zs) := k2 _ _ (ka1 _ _ (hide_in hpu hp))
    have pr3 : ∀ z ∈ zs, Pr (hide u H3) z := fun z hz => (hprh z hz).mono (ka1.trans k2)
    refine ⟨_, rfl, .inl ⟨rfl, _, .of hg2⟩, _, rfl, _, rfl, qa, sg, _, sg[i], rfl, rfl, .of (hide_sub _ _ (k2 _ _ hq)), at_of (j := i) (by omega) (List.getElem?_eq_getElem hi6), ?_⟩
    refine ⟨_, rfl, _, rfl, u, p, 3, zs, n + 210 * (r.toNat - (i + 1)) + 102, rfl, u2.le (by omega), kp3, hz100, pr3, by decide, by decide, fun v1 d1 H4 hd1 w1 k4 u4 => ?_⟩
    refine ⟨_, rfl, _, rfl, u, p, 2, zs, n + 210 * (r.toNat - (i + 1)), rfl, u4.le (by omega), k4 _ _ kp3, hz100, fun z hz => (pr3 z hz).mono k4, by decide, by decide, fun v2 d2 H5 hd2 w2 k5 u5 => ?_⟩
    refine ⟨by show 3 ≤ sizeLine; decide, fun p5 np5 => ?_⟩
    have hp5 : p5 ≠ u := ne_urn u5 np5
    have k35 := k4.trans k5
    have hg5 : H5 g = some (.lst ys) := hide_sub _ _ (k35 _ _ (hide_in hgu hg2))
    have s9 := same_new np5 (.tup [sg[i], v1, v2])
    have hgd9 : Gd (hide u (upd H5 p5 (.tup [sg[i], v1, v2]))) (.ref p5) := by
      have s9h := hide_mono (u := u) s9
      refine ⟨.tuple [.str nm, d1, d2], .tup (hide_in hp5 upd_same) (.cons (by rw [enm]; exact .str nm) (.cons (hd1.mono (k5.trans s9h)) (.cons (hd2.mono s9h) .nil))), wfT_three wnm w1 w2⟩
    have e9 : upd H5 p5 (.tup [sg[i], v1, v2]) g = some (.lst ys) := s9 _ _ hg5
    generalize upd H5 p5 (.tup [sg[i], v1, v2]) = H9 at s9 e9 hgd9 ⊢
    have k39 : Kept u H3 H9 := k35.trans (hide_mono s9)
    refine ⟨g, ys, .ref p5, rfl, rfl, e9, small1000 (by omega), ?_⟩
    refine ⟨_, ys ++ [.ref p5], rfl, kept_new (k2.trans k39) ng, (u5.same s9).upd hgu, upd_same, by rw [List.length_append, hyl]; rfl, fun y hy => ?_⟩
    rcases List.mem_append.mp hy with hy | hy
    · exact ((hgd y hy).mono k39).put e9 hgu
    · have : y = .ref p5 := by simpa using hy
      rw [this]
      exact hgd9.put e9 hgu
  · obtain ⟨t6, ys, rfl, k2, u2, hg2, hyl, hgd⟩ := hP
    refine ⟨_, rfl, q ys g H2 (hide_in hgu hg2) hgd (by omega) ?_ (u2.le (by omega))⟩
    exact (hide_mono sa).trans (ka1.trans k2)
end

/-! ## tags -/
def chS (c : Nat) : Str := ⟨#[c]⟩
def rowC (f b : Int) (k : Nat) : Nat := 97 + ((f + b * (k : Int)) % 26).toNat
theorem signs_at {i : Int} (h0 : 0 ≤ i) (h1 : i < 26) : atI (Str.ofString "abcdefghijklmnopqrstuvwxyz").cps.toList i = some (97 + i.toNat) := by
  have e : (Str.ofString "abcdefghijklmnopqrstuvwxyz").cps.toList = (List.range 26).map (97 + ·) := by decide +kernel
  rw [e, show i = ((i.toNat : Nat) : Int) by omega]
  rw [atI_nat (j := i.toNat) (v := 97 + i.toNat) (by
    rw [List.getElem?_map, List.getElem?_range (by omega)]
    rfl)]
  rfl
theorem row_inj {f b : Int} {i j : Nat} (hf : 0 ≤ f) (hb : b = 1 ∨ b = 3 ∨ b = 7 ∨ b = 11 ∨ b = 25) (hi : i < 8) (hj : j < 8) (h : rowC f b i = rowC f b j) : i = j := by
  unfold rowC at h
  rcases hb with rfl | rfl | rfl | rfl | rfl <;> omega
theorem row_small {f b : Int} {k : Nat} : rowC f b k < 128 := by
  unfold rowC
  have := Int.emod_lt_of_pos (f + b * (k : Int)) (show (0 : Int) < 26 by decide)
  omega
theorem joinL_nil : ∀ ps : List (List Nat), TL.joinL [] ps = ps.flatten
  | [] => rfl
  | [p] => by simp [TL.joinL]
  | p :: q :: r => by
    show p ++ ([] ++ TL.joinL [] (q :: r)) = _
    rw [List.nil_append, joinL_nil (q :: r)]
    rfl
theorem join_cps (ps : List Str) : (Txt.join (Str.ofString "") ps).cps.toList = (ps.map fun z => z.cps.toList).flatten := by
  rw [TL.join_eq]
  have h := TL.tl_join (Str.ofString "") ps
  have e : (Str.ofString "").cps.toList = [] := by decide +kernel
  have h' : (Str.join (Str.ofString "") ps).cps.toList = TL.joinL (Str.ofString "").cps.toList (ps.map fun z => z.cps.toList) := h
  rw [h', e, joinL_nil]
theorem flatten_chs (cs : List Nat) : ((cs.map chS).map fun z : Str => z.cps.toList).flatten = cs := by
  induction cs with
  | nil => rfl
  | cons c cs ih =>
    show [c] ++ ((cs.map chS).map fun z : Str => z.cps.toList).flatten = c :: cs
    rw [ih]
    rfl
theorem join_chs (cs : List Nat) : (Txt.join (Str.ofString "") (cs.map chS)).cps.toList = cs := by rw [join_cps, flatten_chs]
theorem len_cps (x : Str) : x.length = x.cps.toList.length := by simp [Str.length]
theorem ok_small {x : Str} (h : ∀ c ∈ x.cps.toList, c < 128) (hl : x.cps.toList.length ≤ 100) : wf 0 (.str x) = true := by
  have e : PyData.canLay0 (.str x) = true := by
    simp only [PyData.canLay0]
    show x.cps.all (fun c => decide (c < 0x110000)) = true
    rw [arr_all]
    exact List.all_eq_true.mpr fun c hc => decide_eq_true (Nat.lt_trans (h c hc) (by decide))
  simp only [wf, e, Bool.true_and, decide_eq_true_eq]
  rw [len_cps]
  omega
theorem chs_lens (cs : List Nat) : ((cs.map chS).map (·.length)).sum = cs.length := by
  induction cs with
  | nil => rfl
  | cons c cs ih =>
    show (chS c).length + ((cs.map chS).map (·.length)).sum = cs.length + 1
    rw [ih]
    show 1 + cs.length = _
    omega
end Lf

set_option maxHeartbeats 4000000
namespace Lf
open PySem PySem.Spec PyProof.Rows L2

def rJoinK (K : PySem.W.Frag) : V → List V → Hp → VK → Prop := fun x xs H Q => ∃ a p, ∃ ys : List Str, x = .str a ∧ xs = [.ref p] ∧ (SqL K H p (ys.map V.str) ∨ SqT K H p (ys.map V.str)) ∧
  (ys.map (·.length)).sum + ys.length * a.length ≤ 16777216 ∧ Q (.str (Txt.join a ys)) H
theorem mt_joinK {X : Cx} {K : PySem.W.Frag} (h : X.K = K) : MtR X "str.join" (rJoinK K) := by
  subst h
  exact mt_join
def rowN (f b : Int) (n : Nat) : List Str := ((List.range n).map (rowC f b)).map chS
theorem rowN_succ (f b : Int) (n : Nat) : rowN f b (n + 1) = rowN f b n ++ [chS (rowC f b n)] := by
  unfold rowN
  rw [List.range_succ, List.map_append, List.map_append]
  rfl
theorem rowN_len (f b : Int) (n : Nat) : (rowN f b n).length = n := by
  unfold rowN
  rw [List.length_map, List.length_map, List.length_range]
theorem rowN_take (f b : Int) {n m : Nat} (h : m ≤ n) : (rowN f b n).take m = rowN f b m := by
  unfold rowN
  rw [← List.map_take, ← List.map_take, List.take_range, Nat.min_eq_left h]
theorem rowN_get (f b : Int) {n k : Nat} (h : k < n) : (rowN f b n)[k]? = some (chS (rowC f b k)) := by
  unfold rowN
  rw [List.getElem?_map, List.getElem?_map, List.getElem?_range h]
  rfl
def texT (f b : Int) (k : Nat) : Str := Txt.join (Str.ofString "") (rowN f b (k + 1))
theorem texT_cps (f b : Int) (k : Nat) : (texT f b k).cps.toList = (List.range (k + 1)).map (rowC f b) := join_chs _
theorem nodup_range {g : Nat → Str} {m : Nat} (h : ∀ i j, i < m → j < m → g i = g j → i = j) : ((List.range m).map g).Nodup := by
  refine List.pairwise_map.mpr ?_
  refine List.Pairwise.imp_of_mem (R := fun a b => a < b) (fun {a b} ha hb hab e => ?_) List.pairwise_lt_range
  have := h a b (List.mem_range.mp ha) (List.mem_range.mp hb) e
  omega
theorem cutS_mem {z : Str} {lo hi : Option Int} {c : Nat} (h : c ∈ (cutS z lo hi).cps.toList) : c ∈ z.cps.toList := by
  have h' : c ∈ (z.cps.toList.drop (HT.sIx z.length 0 lo)).take (HT.sIx z.length z.length hi - HT.sIx z.length 0 lo) := by simpa [cutS] using h
  exact List.mem_of_mem_drop (List.mem_of_mem_take h')
theorem app_cps (a b : Str) : (a ++ b).cps.toList = a.cps.toList ++ b.cps.toList := TL.tl_append a b
/-- unlike texts, in some order -/
def spTags : Sp := fun vs H Q _ => ∃ (u : Addr) (many n : Nat), vs = [.ref u, .int (many : Int)] ∧ Urn (n + 20) u H ∧ 3 ≤ many ∧ many ≤ 8 ∧
  ∀ ts p H', Tg u H' p ts → ts.length = many → Kept u H H' → Urn n u H' → Q (.ref p) H'
section
variable {P : Program} {w : World} {K : PySem.W.Frag} {mg : Str → Option Value} {base : Heap} {f : Addr} {fd : FuncData}
abbrev nTags : List Str := ["_law_urn", "_law_many_so", "_law_signs", "_law_first_so", "_law_by_so", "_law_row_so", "_law_stem", "_law_at_so", "_law_k", "_law_turn"]
theorem scTags : FnScope nTags ["_law_urn", "_law_many_so"] (defScope (topS 15)) := ⟨rfl, rfl, rfl, by decide +kernel, rfl, by decide +kernel, by decide +kernel⟩
theorem ok_tags (B : Bts mg) (gT : Has P w K mg base 1 "_law_take" ["_law_urn", "_law_low_so"] spTake) (gO : Has P w K mg base 2 "_law_of" ["_law_urn", "_law_some_so"] spOf)
    (F : Fun K "_law_tags" "_law_tags" (topS 15) f fd) : FnOk P w K mg base CX0 3 f fd ["_law_urn", "_law_many_so"] spTags := by
  refine F.ok scTags (fun vs H Q E h => ?_) (fun cdv A outer s H vs Q E hr h => ?_)
  · obtain ⟨u, many, n, rfl, _⟩ := h
    rfl
  obtain ⟨u, many, n, rfl, hu, hm3, hm8, q⟩ := h
  refine ⟨_, pss_cons (ps_set (i := 2) scTags.nd rfl (Or.inr rfl) pe_str)
    (pss_cons (ps_asg (pe_tup (pa_cons (pe_has gT (hr.mono (by decide)) (pa_cons (pv 0) (pa_cons pe_int pa_nil))) (pa_cons (pe_has gO hr (pa_cons (pv 0) (pa_cons (pe_lst (pa_cons pe_int (pa_cons pe_int (pa_cons pe_int (pa_cons pe_int (pa_cons pe_int pa_nil)))))) pa_nil))) pa_nil)))
      (pg_tup rfl (pgs_cons (pg_name (i := 3) scTags.nd rfl (Or.inr rfl)) (pgs_cons (pg_name (i := 4) scTags.nd rfl (Or.inr rfl)) pgs_nil))))
    (pss_cons (ps_set (i := 5) scTags.nd rfl (Or.inr rfl) (pe_lc (own := [("_law_k", 8)]) (g := gName 8) rfl scTags.nd (pi_range1 (by rfl) B.range (pa_cons (pe_callB (call_max2 rfl) (by rfl) B.max (by decide +kernel) (pa_cons pe_int (pa_cons (pv 1) pa_nil))) pa_nil))
        (blkOk_by (own := [("_law_k", 8)]) (N := nTags) (sc := defScope (topS 15)) (by decide +kernel))
        (fun _ _ _ _ _ => pg_name (i := 8) scTags.nd rfl (Or.inl rfl)) (fun _ _ _ _ _ => pts_nil)
        (fun _ _ _ _ _ => pe_ix ix_str (pv 2) (pe_op op_mod (pe_callTy call_int1 (by rfl) B.int boot_int (pa_cons (pe_op op_add (pv 3) (pe_op op_mul (pv 4) (pv 8))) pa_nil)) pe_int) (fun _ _ => rfl))))
    (pss_cons (ps_if (PW.pt (pw_and (pt_cmpR op_lt (pv 1) pe_int (nomark _)) (pw_and1 (pt_cmpR op_eq (pe_has gT (hr.mono (by decide)) (pa_cons (pv 0) (pa_cons pe_int pa_nil))) pe_int (nomark _)))))
      (pss_one (ps_ret (pe_callB cr_sortedS (by rfl) B.sorted (by decide +kernel) (pa_cons (pe_lc (own := [("_law_k", 8)]) (g := gName 8) rfl scTags.nd (pi_range1 (by rfl) B.range (pa_cons (pv 1) pa_nil))
        (blkOk_by (own := [("_law_k", 8)]) (N := nTags) (sc := defScope (topS 15)) (by decide +kernel))
        (fun _ _ _ _ _ => pg_name (i := 8) scTags.nd rfl (Or.inl rfl)) (fun _ _ _ _ _ => pts_nil)
        (fun _ _ _ _ _ => pe_m1 PySem.F.slot_str_join PySem.F.type_str_join (mt_joinK (K := K) rfl) pe_str (pe_slice (show SlR _ (rSlL K) from sl_list) (pv 5) po_none (po_some (pe_op op_add (pv 8) pe_int))))) pa_nil)))) pss_nil)
    (pss_cons (ps_set (i := 6) scTags.nd rfl (Or.inr rfl) (pe_m1 PySem.F.slot_str_join PySem.F.type_str_join (mt_joinK (K := K) rfl) pe_str (pe_lc (own := [("_law_turn", 9)]) (g := gName 9) rfl scTags.nd (pi_range1 (by rfl) B.range (pa_cons (pe_has gO hr (pa_cons (pv 0) (pa_cons (pe_lst (pa_cons pe_int (pa_cons pe_int (pa_cons pe_int (pa_cons pe_int (pa_cons pe_int pa_nil)))))) pa_nil))) pa_nil))
        (blkOk_by (own := [("_law_turn", 9)]) (N := nTags) (sc := defScope (topS 15)) (by decide +kernel))
        (fun _ _ _ _ _ => pg_name (i := 9) scTags.nd rfl (Or.inl rfl)) (fun _ _ _ _ _ => pts_nil)
        (fun _ _ _ _ _ => pe_ix ix_str (pv 2) (pe_has gT (hr.mono (by decide)) (pa_cons (pv 0) (pa_cons pe_int pa_nil))) (fun _ _ => rfl)))))
    (pss_cons (ps_set (i := 7) scTags.nd rfl (Or.inr rfl) (pe_has gT (hr.mono (by decide)) (pa_cons (pv 0) (pa_cons (pe_op op_add (pe_callB call_len_str (by rfl) B.len PySem.boot_len (pa_cons (pv 6) pa_nil)) pe_int) pa_nil))))
    (pss_one (ps_ret (pe_callB cr_sortedS (by rfl) B.sorted (by decide +kernel) (pa_cons (pe_lc (own := [("_law_k", 8)]) (g := gName 8) rfl scTags.nd (pi_range1 (by rfl) B.range (pa_cons (pv 1) pa_nil))
        (blkOk_by (own := [("_law_k", 8)]) (N := nTags) (sc := defScope (topS 15)) (by decide +kernel))
        (fun _ _ _ _ _ => pg_name (i := 8) scTags.nd rfl (Or.inl rfl)) (fun _ _ _ _ _ => pts_nil)
        (fun _ _ _ _ _ => pe_op op_add_str (pe_op op_add_str (pe_slice sl_str (pv 6) po_none (po_some (pv 7))) (pe_ix (show IxR _ (rIxL K) from ix_list) (pv 5) (pv 8) (fun _ _ => rfl))) (pe_slice sl_str (pv 6) (po_some (pv 7)) po_none))) pa_nil))))))))), ?_⟩
  -- the two first draws
  refine ⟨_, rfl, u, 26, n + 19, rfl, hu.le (by omega), by decide, by decide, fun f1 H1 f0 f26 k1 u1 => ?_⟩
  refine ⟨_, rfl, (by show 5 ≤ sizeLine; decide), fun g0 ng0 => ?_⟩
  have hg0 : g0 ≠ u := ne_urn u1 ng0
  have s2 := same_new ng0 (.lst [.int 1, .int 3, .int 7, .int 11, .int 25])
  have e2 : upd H1 g0 (.lst [.int 1, .int 3, .int 7, .int 11, .int 25]) g0 = some (.lst [.int 1, .int 3, .int 7, .int 11, .int 25]) := upd_same
  generalize upd H1 g0 (.lst [.int 1, .int 3, .int 7, .int 11, .int 25]) = H2 at s2 e2 ⊢
  refine ⟨u, g0, _, n + 18, rfl, (u1.same s2).le (by omega), hide_in hg0 e2, by simp, by simp, fun v H3 hv k3 u3 => ?_⟩
  obtain ⟨b, rfl, hb⟩ : ∃ b : Int, v = .int b ∧ (b = 1 ∨ b = 3 ∨ b = 7 ∨ b = 11 ∨ b = 25) := by
    simp only [List.mem_cons, List.not_mem_nil, or_false] at hv
    rcases hv with rfl | rfl | rfl | rfl | rfl <;> exact ⟨_, rfl, by decide⟩
  have k03 : Kept u H H3 := k1.trans ((hide_mono s2).trans k3)
  refine ⟨by show 2 ≤ sizeLine; decide, fun pt npt => ?_⟩
  have s4 := same_new npt (.tup [.int f1, .int b])
  have k04 : Kept u H (upd H3 pt (.tup [.int f1, .int b])) := k03.trans (hide_mono s4)
  have u4 := u3.same s4
  refine ⟨pt, _, rfl, .of upd_same, rfl, _, _, rfl, _, _, rfl, rfl, ?_⟩
  generalize upd H3 pt (.tup [.int f1, .int b]) = H4 at s4 k04 u4 ⊢
  -- the row
  refine ⟨_, rfl, _, _, rfl, 8, ?_, by decide, by decide, fun D nD => ?_⟩
  · rw [if_neg (by omega)]
  have hDu : D ≠ u := ne_urn u4 nD
  refine lc_it (walk_range (lo := 0) (n := (8 : Int).toNat)) (fun i H5 => Same H4 H5 ∧ H5 D = some (.lst ((rowN f1 b i).map V.str))) ⟨same_new nD _, upd_same⟩ (fun _ _ _ _ => trivial) (fun i x H5 H6 hi hP hY => ?_) (fun H5 hP => ?_)
  · obtain ⟨rfl, rfl⟩ := hY
    obtain ⟨sm, hD⟩ := hP
    have hi8 : i < 8 := hi
    refine ⟨rfl, yes ?_⟩
    rw [if_pos rfl]
    refine ⟨_, rfl, _, rfl, _, rfl, _, rfl, _, _, rfl, rfl, .inr ⟨by omega, by omega⟩, _, _, rfl, rfl, .inl ⟨_, rfl, _, _, rfl, rfl, (show (0 : Int) < 26 by decide), ?_⟩⟩
    refine ⟨_, _, _, rfl, rfl, by decide +kernel, signs_at (Int.emod_nonneg _ (by decide)) (Int.emod_lt_of_pos _ (by decide)), _, hD, ?_, same_upd sm nD _, ?_⟩
    · rw [List.length_map, rowN_len]
      exact small1000 (by omega)
    · rw [upd_same, rowN_succ, List.map_append, Int.zero_add]
      rfl
  obtain ⟨sm, hrow⟩ := hP
  have hrow : H5 D = some (.lst ((rowN f1 b 8).map V.str)) := hrow
  have k05 : Kept u H H5 := k04.trans (hide_mono sm)
  have u5 := u4.same sm
  have row_ok : ∀ k, rowC f1 b k < 128 := fun k => row_small
  -- if
  refine ⟨_, rfl, _, _, rfl, rfl, _, rfl, ?_⟩
  rw [decide_eq_true (show (many : Int) < 9 by omega)]
  refine iteT ?_
  refine ⟨_, rfl, u, 4, n + 17, rfl, u5.le (by omega), by decide, by decide, fun r H6 r0 r4 k6 u6 => ?_⟩
  refine ⟨rfl, _, rfl, ?_⟩
  have k06 : Kept u H H6 := k05.trans k6
  have hrow6 : H6 D = some (.lst ((rowN f1 b 8).map V.str)) := hide_sub _ _ (k6 _ _ (hide_in hDu hrow))
  refine ite2 (fun c => ?_) (fun c => ?_)
  · -- each one the beginning of the next one
    refine ⟨_, rfl, (many : Int), rfl, by omega, by omega, fun D2 nD2 => ?_⟩
    refine lc_it (walk_range (lo := 0) (n := (many : Int).toNat)) (fun i H7 => Same H6 H7 ∧ H7 D2 = some (.lst (((List.range i).map (texT f1 b)).map V.str))) ⟨same_new nD2 _, upd_same⟩ (fun _ _ _ _ => trivial) (fun i x H7 H8 hi hP hY => ?_) (fun H7 hP => ?_)
    · obtain ⟨rfl, rfl⟩ := hY
      obtain ⟨sm7, hD2⟩ := hP
      have him : i < many := by omega
      refine ⟨rfl, yes ?_⟩
      rw [if_pos rfl]
      refine ⟨⟨_, rfl⟩, _, rfl, _, rfl, _, _, rfl, rfl, _, rfl, D, _, rfl, .of (sm7 _ _ hrow6), fun p np => ?_⟩
      have ec : cutV ((rowN f1 b 8).map V.str) none (some (0 + (i : Int) + 1)) = (rowN f1 b (i + 1)).map V.str := by
        have h := cutV_to ((rowN f1 b 8).map V.str) (i + 1)
        rw [show (((i + 1 : Nat)) : Int) = 0 + (i : Int) + 1 by omega] at h
        rw [h, ← List.map_take, rowN_take f1 b (by omega)]
      rw [ec]
      have s9 := same_new np (.lst ((rowN f1 b (i + 1)).map V.str))
      refine ⟨_, p, rowN f1 b (i + 1), rfl, rfl, .inl (.of upd_same), ?_, ?_⟩
      · have e := chs_lens ((List.range (i + 1)).map (rowC f1 b))
        have e' : ((rowN f1 b (i + 1)).map (·.length)).sum = i + 1 := by
          rw [List.length_map, List.length_range] at e
          exact e
        rw [e', rowN_len, show (Str.ofString "").length = 0 by decide +kernel]
        omega
      refine ⟨_, s9 _ _ hD2, ?_, same_upd (sm7.trans s9) nD2 _, ?_⟩
      · rw [List.length_map, List.length_map, List.length_range]
        exact small1000 (by omega)
      · rw [upd_same, List.range_succ, List.map_append, List.map_append]
        rfl
    obtain ⟨sm7, hD2⟩ := hP
    have e7 : (many : Int).toNat = many := by omega
    rw [e7] at hD2
    refine ⟨D2, _, rfl, .of hD2, by rw [List.length_map, List.length_range]; omega, fun rs p pm srt np => ?_⟩
    have u7 := u6.same sm7
    have s8 := same_new np (.lst (rs.map V.str))
    have hpu : p ≠ u := ne_urn u7 np
    have hl := pm.length_eq
    rw [List.length_map, List.length_range] at hl
    refine q rs p _ ⟨hide_in hpu upd_same, by omega, by omega, pm.nodup_iff.mpr (nodup_range fun i j hi hj e => ?_), fun t ht => ?_⟩ hl (k06.trans (hide_mono (sm7.trans s8))) ((u7.same s8).le (by omega))
    · have e' := congrArg (fun z : Str => z.cps.toList.length) e
      simp only [texT_cps, List.length_map, List.length_range] at e'
      omega
    · obtain ⟨k, hk, rfl⟩ := List.mem_map.mp (pm.mem_iff.mp ht)
      have hk' := List.mem_range.mp hk
      refine ok_small (fun c hc => ?_) ?_
      · rw [texT_cps] at hc
        obtain ⟨j, _, rfl⟩ := List.mem_map.mp hc
        exact row_ok j
      · rw [texT_cps, List.length_map, List.length_range]
        omega
  -- alike but for one letter
  refine ⟨⟨_, rfl⟩, _, rfl, (by show 5 ≤ sizeLine; decide), fun g1 ng1 => ?_⟩
  have hg1 : g1 ≠ u := ne_urn u6 ng1
  have s7 := same_new ng1 (.lst [.int 0, .int 0, .int 1, .int 5, .int 7])
  have e7 : upd H6 g1 (.lst [.int 0, .int 0, .int 1, .int 5, .int 7]) g1 = some (.lst [.int 0, .int 0, .int 1, .int 5, .int 7]) := upd_same
  generalize upd H6 g1 (.lst [.int 0, .int 0, .int 1, .int 5, .int 7]) = H7 at s7 e7 ⊢
  refine ⟨u, g1, _, n + 16, rfl, (u6.same s7).le (by omega), hide_in hg1 e7, by simp, by simp, fun v H8 hv k8 u8 => ?_⟩
  obtain ⟨m, rfl, hm⟩ : ∃ m : Nat, v = .int (m : Int) ∧ m ≤ 7 := by
    simp only [List.mem_cons, List.not_mem_nil, or_false] at hv
    rcases hv with rfl | rfl | rfl | rfl | rfl
    · exact ⟨0, rfl, by decide⟩
    · exact ⟨0, rfl, by decide⟩
    · exact ⟨1, rfl, by decide⟩
    · exact ⟨5, rfl, by decide⟩
    · exact ⟨7, rfl, by decide⟩
  have k68 : Kept u H6 H8 := (hide_mono s7).trans k8
  refine ⟨(m : Int), rfl, by omega, by omega, fun D3 nD3 => ?_⟩
  have hD3u : D3 ≠ u := ne_urn u8 nD3
  refine lc_it (walk_range (lo := 0) (n := (m : Int).toNat)) (fun i H9 => Kept u H8 H9 ∧ Urn (n + 1 + (m - i)) u H9 ∧ ∃ cs : List Nat, H9 D3 = some (.lst ((cs.map chS).map V.str)) ∧ cs.length = i ∧ ∀ c ∈ cs, c < 128)
    ⟨hide_mono (same_new nD3 _), (u8.same (same_new nD3 _)).le (by omega), [], upd_same, rfl, fun c hc => absurd hc (by simp)⟩ (fun _ _ _ _ => trivial) (fun i x H9 H10 hi hP hY => ?_) (fun H9 hP => ?_)
  · obtain ⟨rfl, rfl⟩ := hY
    obtain ⟨k9, u9, cs, hD3, hcl, hcs⟩ := hP
    have him : i < m := by omega
    refine ⟨rfl, yes ?_⟩
    rw [if_pos rfl]
    refine ⟨_, rfl, _, rfl, u, 26, n + 1 + (m - (i + 1)), rfl, u9.le (by omega), by decide, by decide, fun r2 H11 a0 a26 k11 u11 => ?_⟩
    have hD11 := hide_sub _ _ (k11 _ _ (hide_in hD3u hD3))
    refine ⟨_, _, _, rfl, rfl, by decide +kernel, signs_at a0 a26, _, hD11, ?_, kept_new (k9.trans k11) nD3, u11.upd hD3u, cs ++ [97 + r2.toNat], ?_, ?_, ?_⟩
    · rw [List.length_map, List.length_map]
      exact small1000 (by omega)
    · rw [upd_same, List.map_append, List.map_append]
      rfl
    · rw [List.length_append, hcl]
      rfl
    · intro c hc
      rcases List.mem_append.mp hc with hc | hc
      · exact hcs c hc
      · have : c = 97 + r2.toNat := by simpa using hc
        omega
  obtain ⟨k9, u9, cs, hD3, hcl, hcs⟩ := hP
  refine ⟨_, D3, cs.map chS, rfl, rfl, .inl (.of hD3), ?_, ?_⟩
  · rw [chs_lens, List.length_map, show (Str.ofString "").length = 0 by decide +kernel]
    omega
  have hst := join_chs cs
  generalize hstem : Txt.join (Str.ofString "") (cs.map chS) = stem at hst
  have hsl : stem.length = cs.length := by rw [len_cps, hst]
  have k69 : Kept u H6 H9 := k68.trans k9
  refine ⟨_, rfl, _, rfl, stem, rfl, small (by omega), _, _, rfl, rfl, u, _, n, rfl, u9.le (by omega), by omega, by omega, fun at1 H10 t0 t1 k10 u10 => ?_⟩
  have k6t : Kept u H6 H10 := k69.trans k10
  have hrow10 : H10 D = some (.lst ((rowN f1 b 8).map V.str)) := hide_sub _ _ (k6t _ _ (hide_in hDu hrow6))
  refine ⟨_, rfl, (many : Int), rfl, by omega, by omega, fun D2 nD2 => ?_⟩
  have hX := cutS_length stem none (some at1)
  have hY := cutS_length stem (some at1) none
  refine lc_it (walk_range (lo := 0) (n := (many : Int).toNat)) (fun i H7 => Same H10 H7 ∧ H7 D2 = some (.lst (((List.range i).map fun k => cutS stem none (some at1) ++ chS (rowC f1 b k) ++ cutS stem (some at1) none).map V.str)))
    ⟨same_new nD2 _, upd_same⟩ (fun _ _ _ _ => trivial) (fun i x H7 H8 hi hP hY => ?_) (fun H7 hP => ?_)
  · obtain ⟨rfl, rfl⟩ := hY
    obtain ⟨sm7, hD2⟩ := hP
    have him : i < many := by omega
    refine ⟨rfl, yes ?_⟩
    rw [if_pos rfl]
    have hc1 : (chS (rowC f1 b i)).length = 1 := rfl
    refine ⟨_, rfl, _, rfl, at1, rfl, stem, rfl, small (by omega), _, rfl, _, rfl, D, _, _, V.str (chS (rowC f1 b i)), rfl, rfl, .of (sm7 _ _ hrow10), at_of (j := i) (by omega) ?_, _, _, rfl, rfl, small (by omega), _, rfl, _, rfl, at1, rfl, stem, rfl, small (by omega), _, _, rfl, rfl, ?_, ?_⟩
    · rw [List.getElem?_map, rowN_get f1 b (by omega)]
      rfl
    · have : (cutS stem none (some at1) ++ chS (rowC f1 b i)).length = (cutS stem none (some at1)).length + (chS (rowC f1 b i)).length := by
        rw [len_cps, app_cps, List.length_append, len_cps, len_cps]
      exact small (by omega)
    refine ⟨_, hD2, ?_, same_upd sm7 nD2 _, ?_⟩
    · rw [List.length_map, List.length_map, List.length_range]
      exact small1000 (by omega)
    · rw [upd_same, List.range_succ, List.map_append, List.map_append]
      rfl
  obtain ⟨sm7, hD2⟩ := hP
  have e8 : (many : Int).toNat = many := by omega
  rw [e8] at hD2
  refine ⟨D2, _, rfl, .of hD2, by rw [List.length_map, List.length_range]; omega, fun rs p pm srt np => ?_⟩
  have u7 := u10.same sm7
  have s8 := same_new np (.lst (rs.map V.str))
  have hpu : p ≠ u := ne_urn u7 np
  have hl := pm.length_eq
  rw [List.length_map, List.length_range] at hl
  refine q rs p _ ⟨hide_in hpu upd_same, by omega, by omega, pm.nodup_iff.mpr (nodup_range fun i j hi hj e => ?_), fun t ht => ?_⟩ hl ((k06.trans k6t).trans (hide_mono (sm7.trans s8))) ((u7.same s8).le (by omega))
  · have e' := congrArg (fun z : Str => z.cps.toList) e
    simp only [app_cps] at e'
    have e2 := List.append_cancel_left (List.append_cancel_right e')
    have e3 : rowC f1 b i = rowC f1 b j := by
      have : [rowC f1 b i] = [rowC f1 b j] := e2
      simpa using this
    exact row_inj f0 hb (by omega) (by omega) e3
  · obtain ⟨k, hk, rfl⟩ := List.mem_map.mp (pm.mem_iff.mp ht)
    refine ok_small (fun c hc => ?_) ?_
    · rw [app_cps, app_cps] at hc
      have hss : ∀ c ∈ stem.cps.toList, c < 128 := by
        rw [hst]
        exact hcs
      rcases List.mem_append.mp hc with hc | hc
      · rcases List.mem_append.mp hc with hc | hc
        · exact hss c (cutS_mem hc)
        · have : c = rowC f1 b k := by simpa [chS] using hc
          rw [this]
          exact row_ok k
      · exact hss c (cutS_mem hc)
    · rw [app_cps, app_cps, List.length_append, List.length_append]
      have a1 := len_cps (cutS stem none (some at1))
      have a2 := len_cps (cutS stem (some at1) none)
      have a3 : (chS (rowC f1 b k)).cps.toList.length = 1 := rfl
      omega
end
end Lf

set_option maxHeartbeats 4000000
namespace Lf
open PySem PySem.Spec PyProof.Rows L2

/-! ## the source of draws, the numbers -/
def spBox (K : PySem.W.Frag) : Sp := fun vs H Q _ => ∃ (a : Addr) (ns : List Int) (k : Int), vs = [.ref a, .int k] ∧ SqL K H a (ns.map V.int) ∧ 0 ≤ k ∧ k ≤ 100 ∧
  ∀ p H', Same H H' → H p = none → Urn 1000000 p H' → Q (.ref p) H'
def spCells (K : PySem.W.Frag) : Sp := fun vs H Q _ => ∃ (a : Addr) (ns : List Int), vs = [.ref a, .int 3] ∧ SqL K H a (ns.map V.int) ∧ ns.length ≤ 63 ∧
  ∀ cs p H', Same H H' → H' p = some (.lst (List.map V.int cs)) → 1 ≤ cs.length → cs.length ≤ 3 → Q (.ref p) H'
theorem int_at {ns : List Int} {i : Int} (h0 : 0 ≤ i) (h1 : i < ns.length) : ∃ c : Int, atI (ns.map V.int) i = some (.int c) := by
  have hi : i.toNat < ns.length := by omega
  exact ⟨ns[i.toNat], at_of (j := i.toNat) (by omega) (by rw [List.getElem?_map]; simp [hi])⟩
theorem b01 (k : Bool) : -(2 ^ 64) < (if k = true then (1 : Int) else 0) ∧ (if k = true then (1 : Int) else 0) < 2 ^ 64 := by cases k <;> decide
theorem b0 (k : Bool) : 0 ≤ (if k = true then (1 : Int) else 0) := by cases k <;> decide
section
variable {P : Program} {w : World} {K : PySem.W.Frag} {mg : Str → Option Value} {base : Heap} {f : Addr} {fd : FuncData}
theorem scBox : FnScope ["_law_script", "_law_k", "_law_cell"] ["_law_script", "_law_k"] (defScope (topS 9)) := ⟨rfl, rfl, rfl, by decide +kernel, rfl, by decide +kernel, by decide +kernel⟩
theorem ok_box (B : Bts mg) (F : Fun K "_law_box" "_law_box" (topS 9) f fd) : FnOk P w K mg base CX0 1 f fd ["_law_script", "_law_k"] (spBox K) := by
  refine F.ok scBox (fun vs H Q E h => ?_) (fun cdv A outer s H vs Q E hr h => ?_)
  · obtain ⟨a, ns, k, rfl, _⟩ := h
    rfl
  obtain ⟨a, ns, k, rfl, hS, k0, k1, q⟩ := h
  refine ⟨_, pss_cons (ps_set (i := 2) scBox.nd rfl (Or.inl rfl) (pe_ifExp (pt_cmpR op_lt (pv 1) (pe_callB call_len_seq (by rfl) B.len PySem.boot_len (pa_cons (pv 0) pa_nil)) (nomark _)) (pe_ix ix_list (pv 0) (pv 1) (fun _ _ => rfl)) pe_int))
    (pss_one (ps_ret (pe_lst (pa_cons (pe_op op_mul (pe_callB call_abs (by rfl) B.abs (by decide +kernel) (pa_cons (pv 2) pa_nil)) (pe_callTy call_int1 (by rfl) B.int boot_int (pa_cons (pe_cmpR op_ge (pe_callB call_abs (by rfl) B.abs (by decide +kernel) (pa_cons (pv 2) pa_nil)) (pe_op op_pow pe_int pe_int) (nomark _)) pa_nil)))
      (pa_cons (pe_op op_add (pe_op op_add (pe_op op_mod (pe_callTy call_int1 (by rfl) B.int boot_int (pa_cons (pv 2) pa_nil)) pe_int) (pe_op op_mul pe_int (pv 1))) pe_int)
      (pa_cons pe_int pa_nil)))))), ?_⟩
  have main : ∀ c : Int, (tRet (tLst (tCons (tOp (rI CMul fun i j => V.int (i * j)) (tCB (fun xs H Q => ∃ i, xs = [V.int i] ∧ Q (.int (if i < 0 then -i else i)) H) (tCons (tVar 2) tNil))
      (tCB (fun xs H Q => (∃ i, xs = [V.int i] ∧ Q (.int i) H) ∨ ∃ k, xs = [V.bl k] ∧ Q (.int (if k then 1 else 0)) H) (tCons (tOp (rI0 fun i j => .bl (decide (j ≤ i))) (tCB (fun xs H Q => ∃ i, xs = [V.int i] ∧ Q (.int (if i < 0 then -i else i)) H) (tCons (tVar 2) tNil)) (tOp (rI CPow fun i j => .int (i ^ j.toNat)) (tC (.int 10)) (tC (.int 18)))) tNil)))
      (tCons (tOp (rI0 fun i j => .int (i + j)) (tOp (rI0 fun i j => .int (i + j)) (tOp (rI (fun _ j => 0 < j) fun i j => .int (i % j)) (tCB (fun xs H Q => (∃ i, xs = [V.int i] ∧ Q (.int i) H) ∨ ∃ k, xs = [V.bl k] ∧ Q (.int (if k then 1 else 0)) H) (tCons (tVar 2) tNil)) (tC (.int 2305843009213693951))) (tOp (rI CMul fun i j => V.int (i * j)) (tC (.int 39373)) (tVar 1))) (tC (.int 142300)))
      (tCons (tC (.int 0)) tNil))))) { nx := fun _ H' => Q .non H', rt := Q } [some (.ref a), some (.int k), some (.int c)] H := by
    intro c
    have hab : 0 ≤ (if c < 0 then -c else c) := by split <;> omega
    refine ⟨_, rfl, c, rfl, _, rfl, c, rfl, _, _, rfl, rfl, ⟨by decide, by decide, by decide⟩, _, _, rfl, rfl, .inr ⟨_, rfl, _, _, rfl, rfl, .inr (b01 _), ?_⟩⟩
    refine ⟨_, rfl, .inl ⟨_, rfl, _, _, rfl, rfl, (show (0 : Int) < 2305843009213693951 by decide), ?_⟩⟩
    have m0 : 0 ≤ c % 2305843009213693951 := Int.emod_nonneg _ (by decide)
    have m1 : c % 2305843009213693951 < 2305843009213693951 := Int.emod_lt_of_pos _ (by decide)
    refine ⟨_, rfl, _, _, rfl, rfl, .inl ⟨by decide, by decide⟩, _, _, rfl, rfl, _, _, rfl, rfl, (by show 3 ≤ sizeLine; decide), fun p np => ?_⟩
    refine q p _ (same_new np _) np ⟨_, _, _, upd_same, ?_, by omega, by omega, by decide, by decide⟩
    exact Int.mul_nonneg hab (b0 _)
  refine ⟨_, rfl, _, rfl, _, _, rfl, .inl hS, _, _, rfl, rfl, _, rfl, ?_⟩
  refine ite2 (fun z => ?_) (fun z => ?_)
  · have z' : k < (((ns.map V.int).length : Nat) : Int) := of_decide_eq_true z
    rw [List.length_map] at z'
    obtain ⟨c, hc⟩ := int_at k0 z'
    exact ⟨_, rfl, _, rfl, a, _, _, _, rfl, rfl, hS, hc, main c⟩
  · exact main 0

theorem scCells : FnScope ["_law_script", "_law_top", "_law_cells_here", "_law_k", "_law_cell", "_law_at_so"] ["_law_script", "_law_top"] (defScope (topS 11)) := ⟨rfl, rfl, rfl, by decide +kernel, rfl, by decide +kernel, by decide +kernel⟩
theorem ok_cells (B : Bts mg) (F : Fun K "_law_cells" "_law_cells" (topS 11) f fd) : FnOk P w K mg base CX0 1 f fd ["_law_script", "_law_top"] (spCells K) := by
  refine F.ok scCells (fun vs H Q E h => ?_) (fun cdv A outer s H vs Q E hr h => ?_)
  · obtain ⟨a, ns, rfl, _⟩ := h
    rfl
  obtain ⟨a, ns, rfl, hS, hl, q⟩ := h
  refine ⟨_, pss_cons (ps_set (i := 2) scCells.nd rfl (Or.inl rfl) (pe_orT (pe_callTy call_list_of (by rfl) B.list (by decide +kernel) (pa_cons (pe_slice sl_list (pv 0) po_none (po_some (pv 1))) pa_nil)) (pe_one (pe_lst (pa_cons pe_int pa_nil)))))
    (pss_cons (ps_for PassesOwn.never rfl (pi_enum (by rfl) B.enum (pa_cons (pe_slice sl_list (pv 0) (po_some (pv 1)) (po_some pe_int)) pa_nil))
      (pg_tup rfl (pgs_cons (pg_name (i := 3) scCells.nd rfl (Or.inl rfl)) (pgs_cons (pg_name (i := 4) scCells.nd rfl (Or.inl rfl)) pgs_nil)))
      (pss_cons (ps_set (i := 5) scCells.nd rfl (Or.inl rfl) (pe_op op_mod (pe_callTy call_int1 (by rfl) B.int boot_int (pa_cons (pv 3) pa_nil)) (pv 1)))
      (pss_one (ps_asg (pe_op op_add (pe_ix ix_list (pv 2) (pv 5) (fun _ _ => rfl)) (pe_op op_mul (pv 4) (pe_op op_add (pv 3) pe_int))) (pg_sub (pv 2) (pv 5) set_list)))))
    (pss_one (ps_ret (pv 2)))), ?_⟩
  have main : ∀ (c : Addr) (cs : List Int) (H1 : Hp), Same H H1 → H c = none → H1 c = some (.lst (cs.map V.int)) → 1 ≤ cs.length → cs.length ≤ 3 → (3 < ns.length → cs.length = 3) →
      (tSeq (tFor (iEnum K (tCons (tSl (rSlL K) (tVar 0) (tPart (tVar 1)) (tPart (tC (.int 63)))) tNil)) (gTup K 2 (gCons (gName 3) (gCons (gName 4) gNil)))
        (tSeq (tAsg (tOp (rI (fun _ j => 0 < j) fun i j => .int (i % j)) (tCB (fun xs H Q => (∃ i, xs = [V.int i] ∧ Q (.int i) H) ∨ ∃ k, xs = [V.bl k] ∧ Q (.int (if k then 1 else 0)) H) (tCons (tVar 3) tNil)) (tVar 1)) (gName 5))
          (tAsg (tOp (rI0 fun i j => .int (i + j)) (tOp (rIxL K) (tVar 2) (tVar 5)) (tOp (rI CMul fun i j => V.int (i * j)) (tVar 4) (tOp (rI0 fun i j => .int (i + j)) (tVar 3) (tC (.int 2))))) (gSub (tVar 2) (tVar 5) rSetL))))
        (tRet (tVar 2))) { nx := fun _ H' => Q .non H', rt := Q } [some (.ref a), some (.int 3), some (.ref c), none, none, none] H1 := by
    intro c cs H1 s1 nc hc l1 l3 l33
    have hS1 : SqL K H1 a (ns.map V.int) := s1.seq hS
    refine ⟨_, rfl, _, rfl, 3, rfl, 63, rfl, a, _, rfl, hS1, fun p np => ?_⟩
    have ecut : cutV (ns.map V.int) (some (3 : Int)) (some (63 : Int)) = ((ns.drop 3).take 60).map V.int := by
      by_cases h3 : 3 ≤ ns.length
      · have h := cutV_mid (ns.map V.int) 3 63 (by rw [List.length_map]; exact h3)
        rw [show ((3 : Nat) : Int) = (3 : Int) from rfl, show ((63 : Nat) : Int) = (63 : Int) from rfl] at h
        rw [h, ← List.map_drop, ← List.map_take]
      · have h1 : ns.drop 3 = [] := List.drop_eq_nil_of_le (by omega)
        rw [h1]
        unfold cutV
        rw [show HT.sIx (ns.map V.int).length 0 (some (3 : Int)) = min 3 (ns.map V.int).length from HT.sIx_nat _ _ 3, List.length_map, Nat.min_eq_right (by omega), List.drop_eq_nil_of_le (by rw [List.length_map]; exact Nat.le_refl _), List.take_nil]
        rfl
    rw [ecut]
    have s2 := same_new np (.lst (((ns.drop 3).take 60).map V.int))
    have e2 : upd H1 p (.lst (((ns.drop 3).take 60).map V.int)) p = some (.lst (((ns.drop 3).take 60).map V.int)) := upd_same
    have hc2 := s2 _ _ hc
    have hpc : p ≠ c := fun e => by
      rw [e] at np
      rw [hc] at np
      cases np
    generalize upd H1 p (.lst (((ns.drop 3).take 60).map V.int)) = H2 at s2 e2 hc2 ⊢
    generalize hms : (ns.drop 3).take 60 = ms at e2
    have hml : ms.length ≤ 60 ∧ (0 < ms.length → cs.length = 3) := by
      rw [← hms, List.length_take, List.length_drop]
      exact ⟨by omega, fun h => l33 (by omega)⟩
    refine ⟨p, _, rfl, .of e2, ?_⟩
    refine for_it (walk_enum (K := K) (a := p) (xs := ms.map V.int)) (fun i σ H3 => ∃ t3 t4 t5 zs, σ = [some (.ref a), some (.int 3), some (.ref c), t3, t4, t5] ∧ Same H H3 ∧ H3 p = some (.lst (ms.map V.int)) ∧ H3 c = some (.lst (List.map V.int zs)) ∧ zs.length = cs.length)
      ⟨none, none, none, cs, rfl, s1.trans s2, e2, hc2, rfl⟩ (fun i σ H3 _ hP => ?_) (fun i x σ H3 H4 hi hP hY => ?_) (fun σ H3 hP => ?_)
    · obtain ⟨t3, t4, t5, zs, rfl, _, hp, _⟩ := hP
      exact .of hp
    · obtain ⟨T, x1, x2, rfl, nT, rfl, e1, e2⟩ := hY
      obtain ⟨t3, t4, t5, zs, rfl, sm, hp, hc3, hz⟩ := hP
      have ex1 : x1 = .int (i : Nat) := (Option.some.inj e1).symm
      subst ex1
      obtain ⟨y, hy⟩ : ∃ y : Int, x2 = .int y := by
        have e2' : (ms.map V.int)[i]? = some x2 := e2
        rw [List.getElem?_map] at e2'
        cases e : ms[i]? with
        | none =>
          rw [e] at e2'
          cases e2'
        | some y =>
          rw [e] at e2'
          exact ⟨y, (Option.some.inj e2').symm⟩
      subst hy
      rw [List.length_map] at hi
      have h3 : cs.length = 3 := hml.2 (by omega)
      have s5 := same_new nT (.tup [.int (i : Nat), .int y])
      have hc5 := s5 _ _ hc3
      have hp5 := s5 _ _ hp
      refine ⟨T, _, rfl, .of upd_same, rfl, _, _, rfl, _, _, rfl, rfl, ?_⟩
      generalize upd H3 T (.tup [.int (i : Nat), .int y]) = H5 at s5 hc5 hp5 ⊢
      refine ⟨_, rfl, .inl ⟨_, rfl, _, rfl, _, _, rfl, rfl, (show (0 : Int) < 3 by decide), ?_⟩⟩
      have m0 : 0 ≤ (i : Int) % 3 := Int.emod_nonneg _ (by decide)
      have m1 : (i : Int) % 3 < 3 := Int.emod_lt_of_pos _ (by decide)
      obtain ⟨z, hz1⟩ := int_at (ns := zs) m0 (by omega)
      refine ⟨_, rfl, _, rfl, c, _, _, _, rfl, rfl, .of hc5, hz1, _, rfl, _, rfl, _, _, rfl, rfl, _, _, rfl, rfl, .inr ⟨by omega, by omega⟩, _, _, rfl, rfl, _, rfl, _, rfl, c, _, _, ((i : Int) % 3).toNat, rfl, rfl, hc5, ?_, ?_⟩
      · unfold ixN
        rw [if_pos m0, if_pos (by rw [List.length_map]; omega)]
      refine ⟨_, _, _, zs.set ((i : Int) % 3).toNat (z + y * ((i : Int) + 2)), rfl, same_upd (sm.trans s5) nc _, ?_, ?_, ?_⟩
      · rw [upd_ne hpc]
        exact hp5
      · rw [upd_same, List.map_set]
      · rw [List.length_set]
        exact hz
    · obtain ⟨t3, t4, t5, zs, rfl, sm, hp, hc3, hz⟩ := hP
      exact ⟨_, rfl, q zs c H3 sm hc3 (by omega) (by omega)⟩
  refine ⟨_, rfl, _, rfl, 3, rfl, a, _, rfl, hS, fun p np => ?_⟩
  have ecut : cutV (ns.map V.int) none (some (3 : Int)) = (ns.take 3).map V.int := by
    have h := cutV_to (ns.map V.int) 3
    rw [show ((3 : Nat) : Int) = (3 : Int) from rfl] at h
    rw [h, List.map_take]
  rw [ecut]
  have s1 := same_new np (.lst ((ns.take 3).map V.int))
  refine ⟨p, _, rfl, .inl (.of upd_same), fun c nc => ?_⟩
  have s2 := s1.trans (same_new nc (.lst ((ns.take 3).map V.int)))
  refine ⟨!((ns.take 3).map V.int).isEmpty, .inl ⟨_, .of upd_same, rfl⟩, ?_⟩
  have nc0 : H c = none := s1.free nc
  by_cases he : ns = []
  · subst he
    refine iteF ?_
    refine ⟨by show 1 ≤ sizeLine; decide, fun g ng => ?_⟩
    exact main g [0] _ (s2.trans (same_new ng _)) (s2.free ng) upd_same (by decide) (by decide) (fun h => absurd h (by simp))
  · have hne : (!((ns.take 3).map V.int).isEmpty) = true := by
      cases ns with
      | nil => exact absurd rfl he
      | cons _ _ => rfl
    rw [hne]
    refine iteT ?_
    refine main c (ns.take 3) _ s2 nc0 upd_same ?_ ?_ ?_
    · rw [List.length_take]
      have : 0 < ns.length := List.length_pos_iff.mpr he
      omega
    · rw [List.length_take]
      omega
    · rw [List.length_take]
      omega
end
end Lf

set_option maxHeartbeats 4000000
namespace Lf
open PySem PySem.Spec PyProof.Rows L2

/-! ## expressions that give known data -/
/-- a part of the heap in which new objects are seen -/
structure Vw (W : Hp → Hp) (N : Hp → Prop) : Prop where
  mono : ∀ {H H' : Hp}, Same H H' → Same (W H) (W H')
  sub : ∀ {H : Hp}, Same (W H) H
  keep : ∀ {H H' : Hp}, N H → Same H H' → N H'
  new : ∀ {H : Hp} {p : Addr} {o : HO}, N H → H p = none → W (upd H p o) p = some o
theorem vw_id : Vw (fun H => H) (fun _ => True) := ⟨fun h => h, .refl _, fun _ _ => trivial, fun _ _ => upd_same⟩
theorem vw_hide {u : Addr} : Vw (hide u) (fun H => ∃ o, H u = some o) :=
  ⟨hide_mono, hide_sub, fun ⟨o, e⟩ s => ⟨o, s _ _ e⟩, fun ⟨o, e⟩ hp => hide_in (fun z => ne_of_none e hp z.symm) upd_same⟩
def Gv (W : Hp → Hp) (N : Hp → Prop) (t : TE) (σ : L2.St) (H : Hp) (d : PyData) : Prop := ∀ H1, Same H H1 → N H1 → ∀ Q : VK, (∀ v H', Same H1 H' → Dd (W H') v d → Q v H') → t σ H1 Q
def GvA (W : Hp → Hp) (N : Hp → Prop) (t : TA) (σ : L2.St) (H : Hp) (ds : List PyData) : Prop := ∀ H1, Same H H1 → N H1 → ∀ Q : List V → Hp → Prop, (∀ vs H', Same H1 H' → DdAll (W H') vs ds → Q vs H') → t σ H1 Q
section
variable {W : Hp → Hp} {N : Hp → Prop} {σ : L2.St} {H : Hp}
theorem gv_int {i : Int} : Gv W N (tC (.int i)) σ H (.int i) := fun H1 _ _ Q q => q _ H1 (.refl _) (.int i)
theorem gv_str {x : Str} : Gv W N (tC (.str x)) σ H (.str x) := fun H1 _ _ Q q => q _ H1 (.refl _) (.str x)
theorem gv_bl {b : Bool} : Gv W N (tC (.bl b)) σ H (.bool b) := fun H1 _ _ Q q => q _ H1 (.refl _) (.bl b)
theorem gv_non : Gv W N (tC .non) σ H .none := fun H1 _ _ Q q => q _ H1 (.refl _) .non
theorem gv_neg {i : Int} : Gv W N (tUn (rU fun i => .int (-i)) (tC (.int i))) σ H (.int (-i)) := fun H1 _ _ Q q => ⟨_, rfl, q _ H1 (.refl _) (.int (-i))⟩
theorem gv_var {i : Nat} {v : V} {d : PyData} (V : Vw W N) (e : σ[i]? = some (some v)) (h : Dd (W H) v d) : Gv W N (tVar i) σ H d := fun H1 s1 _ Q q => ⟨v, e, q v H1 (.refl _) (h.mono (V.mono s1))⟩
theorem gva_nil : GvA W N tNil σ H [] := fun H1 _ _ Q q => q [] H1 (.refl _) .nil
theorem gva_cons {te : TE} {tr : TA} {d : PyData} {ds : List PyData} (V : Vw W N) (h : Gv W N te σ H d) (hr : GvA W N tr σ H ds) : GvA W N (tCons te tr) σ H (d :: ds) := fun H1 s1 n1 Q q =>
  h H1 s1 n1 _ fun v H2 s2 hd => hr H2 (s1.trans s2) (V.keep n1 s2) _ fun vs H3 s3 hds => q (v :: vs) H3 (s2.trans s3) (.cons (hd.mono (V.mono s3)) hds)
theorem gv_tup {ta : TA} {ds : List PyData} (V : Vw W N) (h : GvA W N ta σ H ds) (hl : ds.length ≤ 1000) : Gv W N (tTup ta) σ H (.tuple ds) := fun H1 s1 n1 Q q =>
  h H1 s1 n1 _ fun vs H2 s2 hd => ⟨by rw [hd.length]; exact small hl, fun p np => q (.ref p) _ (s2.trans (same_new np _)) (.tup (V.new (V.keep n1 s2) np) (hd.mono (V.mono (same_new np _))))⟩
theorem gv_lst {ta : TA} {ds : List PyData} (V : Vw W N) (h : GvA W N ta σ H ds) (hl : ds.length ≤ 1000) : Gv W N (tLst ta) σ H (.list ds) := fun H1 s1 n1 Q q =>
  h H1 s1 n1 _ fun vs H2 s2 hd => ⟨by rw [hd.length]; exact small hl, fun p np => q (.ref p) _ (s2.trans (same_new np _)) (.lst (V.new (V.keep n1 s2) np) (hd.mono (V.mono (same_new np _))))⟩
end

/-- a name is given such a datum -/
theorem gv_set {W : Hp → Hp} {N : Hp → Prop} {T : TE} {rest : TS} {D : Ends} {σ : L2.St} {H : Hp} {d : PyData} {i : Nat} (h : Gv W N T σ H d) (n : N H) (k : ∀ v H', Same H H' → Dd (W H') v d → rest D (σ.set i (some v)) H') : tSeq (tAsg T (gName i)) rest D σ H := h H (.refl H) n _ k

/-! ## bent -/
def abD : PyData := .tuple [.str "a", .str "b"]
def oddL : List PyData := [.int 0, .int 1, .bool true, .none, .str "", .str "a", .str "B", .str "abcdefghi", .tuple [], .list [], .tuple [.str "a", .str "b"], .tuple [.str "b", .str "a"], .tuple [.tuple [.str "a", .str "b"]], .str "x", .int (-1)]
theorem odd_wf : ∀ d ∈ oddL, wf 3 d = true := by
  have h : oddL.all (wf 3) = true := by decide +kernel
  exact List.all_eq_true.mp h
/-- some datum, made out of d by one change; j: how deep at most -/
def spBent (j : Nat) : Sp := fun vs H Q _ => ∃ (u : Addr) (v : V) (deep : Nat) (d : PyData) (m n : Nat), vs = [.ref u, v, .int (deep : Int)] ∧ deep + 1 ≤ j ∧ Urn (n + 3 * (deep + 1)) u H ∧ Dd (hide u H) v d ∧ wfT m d = true ∧ m ≤ 20 ∧
  ∀ v d H', Dd (hide u H') v d → wf (m + 3) d = true → Kept u H H' → Urn n u H' → Q v H'
theorem wf_tup {n : Nat} {ds : List PyData} (hl : ds.length ≤ 1000) (h : ∀ d ∈ ds, wf n d = true) : wf (n + 1) (.tuple ds) = true := by
  simp only [wf, Bool.and_eq_true, decide_eq_true_eq, List.all_eq_true]
  exact ⟨hl, h⟩
theorem wf_lst {n : Nat} {ds : List PyData} (hl : ds.length ≤ 1000) (h : ∀ d ∈ ds, wf n d = true) : wf (n + 1) (.list ds) = true := by
  simp only [wf, Bool.and_eq_true, decide_eq_true_eq, List.all_eq_true]
  exact ⟨hl, h⟩
section
variable {P : Program} {w : World} {K : PySem.W.Frag} {mg : Str → Option Value} {base : Heap} {f : Addr} {fd : FuncData}
abbrev nBent : List Str := ["_law_urn", "_law_bit", "_law_deep", "_law_odd", "_law_way_so", "_law_k"]
theorem scBent : FnScope nBent ["_law_urn", "_law_bit", "_law_deep"] (defScope (topS 27)) := ⟨rfl, rfl, rfl, by decide +kernel, rfl, by decide +kernel, by decide +kernel⟩
theorem ok_bent {j : Nat} (B : Bts mg) (gT : Has P w K mg base 1 "_law_take" ["_law_urn", "_law_low_so"] spTake) (gO : Has P w K mg base 2 "_law_of" ["_law_urn", "_law_some_so"] spOf) (gB : Has P w K mg base (j + 2) "_law_bent" ["_law_urn", "_law_bit", "_law_deep"] (spBent j))
    (F : Fun K "_law_bent" "_law_bent" (topS 27) f fd) : FnOk P w K mg base CX0 (j + 1 + 2) f fd ["_law_urn", "_law_bit", "_law_deep"] (spBent (j + 1)) := by
  refine F.ok scBent (fun vs H Q E h => ?_) (fun cdv A outer s H vs Q E hr h => ?_)
  · obtain ⟨u, v, deep, d, m, n, rfl, _⟩ := h
    rfl
  obtain ⟨u, v, deep, d, m, n, rfl, hj, hu, hd, hw, hm, q⟩ := h
  have hr2 : Room (j + 2) (A.deeper (envOfC "_law_bent" (defScope (topS 27)) s.heap.objs.size f cdv)) := hr
  have hrO : Room 2 (A.deeper (envOfC "_law_bent" (defScope (topS 27)) s.heap.objs.size f cdv)) := hr2.mono (by omega)
  have hrT : Room 1 (A.deeper (envOfC "_law_bent" (defScope (topS 27)) s.heap.objs.size f cdv)) := hr2.mono (by omega)
  refine ⟨_, pss_cons (ps_set (i := 3) scBent.nd rfl (Or.inl rfl) (pe_lst (pa_cons pe_int (pa_cons pe_int (pa_cons pe_bl (pa_cons pe_non (pa_cons pe_str (pa_cons pe_str (pa_cons pe_str (pa_cons pe_str (pa_cons (pe_tup pa_nil) (pa_cons (pe_lst pa_nil)
      (pa_cons (pe_tup (pa_cons pe_str (pa_cons pe_str pa_nil))) (pa_cons (pe_tup (pa_cons pe_str (pa_cons pe_str pa_nil))) (pa_cons (pe_tup (pa_cons (pe_tup (pa_cons pe_str (pa_cons pe_str pa_nil))) pa_nil)) (pa_cons pe_str (pa_cons (pe_un un_neg pe_int) pa_nil)))))))))))))))))
    (pss_cons (ps_if (PW.pt (pw_or (pt_not (pt_val (pe_callB call_isi (by rfl) B.isi (by decide +kernel) (pa_cons (pv 1) (pa_cons (pe_bltn (v := .ty "tuple") (by rfl) B.tuple (by decide +kernel) rfl) pa_nil)))))
        (pw_or (pt_cmpR op_eq (pe_callB call_len_seq (by rfl) B.len PySem.boot_len (pa_cons (pv 1) pa_nil)) pe_int (nomark _))
        (pw_or1 (pt_cmpR op_eq (pv 2) pe_int (nomark _))))))
      (pss_one (ps_ret (pe_has gO hrO (pa_cons (pv 0) (pa_cons (pv 3) pa_nil))))) pss_nil)
    (pss_cons (ps_par (i := 4) (j := 5) rfl scBent.nd rfl rfl (by decide) rfl rfl (pa_cons (pe_has gT hrT (pa_cons (pv 0) (pa_cons pe_int pa_nil))) (pa_cons (pe_has gT hrT (pa_cons (pv 0) (pa_cons (pe_callB call_len_seq (by rfl) B.len PySem.boot_len (pa_cons (pv 1) pa_nil)) pa_nil))) pa_nil)) (by rfl))
    (pss_cons (ps_if (pt_cmpR op_eq (pv 4) pe_int (nomark _)) (pss_one (ps_ret (pe_callTy call_list_of (by rfl) B.list (by decide +kernel) (pa_cons (pv 1) pa_nil)))) pss_nil)
    (pss_cons (ps_if (pt_cmpR op_eq (pv 4) pe_int (nomark _)) (pss_one (ps_ret (pe_op op_catC (pe_slice sl_tupC (pv 1) po_none (po_some (pv 5))) (pe_slice sl_tupC (pv 1) (po_some (pe_op op_add (pv 5) pe_int)) po_none)))) pss_nil)
    (pss_cons (ps_if (pt_cmpR op_eq (pv 4) pe_int (nomark _)) (pss_one (ps_ret (pe_op op_catC (pe_op op_catC (pe_slice sl_tupC (pv 1) po_none (po_some (pv 5))) (pe_slice sl_tupC (pv 1) (po_some (pv 5)) (po_some (pe_op op_add (pv 5) pe_int)))) (pe_slice sl_tupC (pv 1) (po_some (pv 5)) po_none)))) pss_nil)
    (pss_cons (ps_if (pt_cmpR op_eq (pv 4) pe_int (nomark _)) (pss_one (ps_ret (pe_op op_catC (pe_op op_catC (pe_slice sl_tupC (pv 1) po_none (po_some (pv 5))) (pe_tup (pa_cons (pe_has gO hrO (pa_cons (pv 0) (pa_cons (pv 3) pa_nil))) pa_nil))) (pe_slice sl_tupC (pv 1) (po_some (pv 5)) po_none)))) pss_nil)
    (pss_one (ps_ret (pe_op op_catC (pe_op op_catC (pe_slice sl_tupC (pv 1) po_none (po_some (pv 5))) (pe_tup (pa_cons (pe_has gB hr2 (pa_cons (pv 0) (pa_cons (pe_ix ix_tup (pv 1) (pv 5) (fun _ _ => rfl)) (pa_cons (pe_op op_sub (pv 2) pe_int) pa_nil)))) pa_nil))) (pe_slice sl_tupC (pv 1) (po_some (pe_op op_add (pv 5) pe_int)) po_none)))))))))), ?_⟩
  have gvO : Gv (hide u) (fun H => ∃ o, H u = some o) (tLst (tCons (tC (.int 0)) (tCons (tC (.int 1)) (tCons (tC (.bl true)) (tCons (tC .non) (tCons (tC (.str "")) (tCons (tC (.str "a")) (tCons (tC (.str "B")) (tCons (tC (.str "abcdefghi")) (tCons (tTup tNil) (tCons (tLst tNil)
      (tCons (tTup (tCons (tC (.str "a")) (tCons (tC (.str "b")) tNil))) (tCons (tTup (tCons (tC (.str "b")) (tCons (tC (.str "a")) tNil))) (tCons (tTup (tCons (tTup (tCons (tC (.str "a")) (tCons (tC (.str "b")) tNil))) tNil)) (tCons (tC (.str "x")) (tCons (tUn (rU fun i => .int (-i)) (tC (.int 1))) tNil))))))))))))))))
      (start nBent [.ref u, v, .int (deep : Int)]) H (.list oddL) := by
    unfold oddL
    repeat' (first | exact gv_int | exact gv_str | exact gv_bl | exact gv_non | exact gv_neg | exact gva_nil | refine gva_cons vw_hide ?_ ?_ | refine gv_tup vw_hide ?_ ?_ | refine gv_lst vw_hide ?_ ?_ | (show _ ≤ 1000; decide))
  refine gv_set gvO hu.at fun ov H1 s1 hov => ?_
  have u1 := hu.same s1
  have k1 : Kept u H H1 := hide_mono s1
  have hd1 := hd.mono k1
  cases hov with
  | @lst oa oxs _ ho1 ho2 =>
  have olen := ho2.length
  have one : ∀ (H2 : Hp) (n2 : Nat) (Q2 : VK), Kept u H1 H2 → Urn (n2 + 1) u H2 → (∀ v d H', Dd (hide u H') v d → wf 3 d = true → Kept u H2 H' → Urn n2 u H' → Q2 v H') → spOf [.ref u, .ref oa] H2 Q2 E0 := by
    intro H2 n2 Q2 k2 u2 q2
    refine ⟨u, oa, oxs, n2, rfl, u2, k2 _ _ ho1, ?_, ?_, fun v H3 hv k3 u3 => ?_⟩
    · intro e
      rw [e] at olen
      cases olen
    · rw [olen]
      decide
    · obtain ⟨i, hi⟩ := List.mem_iff_getElem?.mp hv
      obtain ⟨d2, g1, g2⟩ := ho2.get hi
      exact q2 v d2 H3 (g2.mono (k2.trans k3)) (odd_wf _ (List.mem_of_getElem? g1)) k3 u3
  have give : ∀ (v : V) (d : PyData) (H' : Hp), Dd (hide u H') v d → wf 3 d = true → Kept u H1 H' → Urn n u H' → Q v H' := fun v d H' h1 h2 h3 h4 => q v d H' h1 (wf_mono 3 (m + 3) d (by omega) h2) (k1.trans h3) h4
  refine ⟨_, rfl, _, _, _, _, _, rfl, .ty "tuple", (hd1.mono hide_sub).ty, kit_tup d, _, rfl, ?_⟩
  cases hd1 with
  | @tup a xs ds h1 h2 =>
    obtain ⟨m, rfl, hlen, hall⟩ := wfT_tuple hw
    have hl := h2.length
    have ha1 : H1 a = some (.tup xs) := hide_sub _ _ h1
    have hwf : ∀ d ∈ ds, wf (m + 3) d = true := fun d hd => wf_mono m (m + 3) d (by omega) (wfT_wf m d (hall d hd))
    refine iteF ?_
    refine ⟨_, rfl, _, _, rfl, .inr (.of ha1), rfl, _, rfl, ?_⟩
    refine ite2 (fun c => ?_) (fun c => ?_)
    · refine iteT ?_
      exact ⟨_, rfl, _, rfl, one H1 n Q (.refl _) (u1.le (by omega)) give⟩
    have c0 : ds.length ≠ 0 := fun e => by
      have c' : ¬ V.int (xs.length : Int) = V.int 0 := of_decide_eq_false (Bool.eq_false_iff.mpr c)
      exact c' (by rw [hl, e]; rfl)
    refine ⟨_, rfl, rfl, _, rfl, ?_⟩
    refine ite2 (fun c => ?_) (fun c => ?_)
    · exact ⟨_, rfl, _, rfl, one H1 n Q (.refl _) (u1.le (by omega)) give⟩
    have cd : deep ≠ 0 := fun e => by
      have c' : ¬ V.int (deep : Int) = V.int 0 := of_decide_eq_false (Bool.eq_false_iff.mpr c)
      exact c' (by rw [e]; rfl)
    refine ⟨_, rfl, u, 8, n + 3 * deep + 2, rfl, u1.le (by omega), by decide, by decide, fun wy H2 w0 w8 k2 u2 => ?_⟩
    have hh2 : hide u H2 a = some (.tup xs) := k2 _ _ h1
    refine ⟨_, rfl, _, rfl, _, _, rfl, .inr (.of (hide_sub _ _ hh2)), u, _, n + 3 * deep + 1, rfl, u2.le (by omega), by omega, by omega, fun kk H3 kk0 kk1 k3 u3 => ?_⟩
    refine ⟨_, _, rfl, ?_⟩
    have hh3 : hide u H3 a = some (.tup xs) := k3 _ _ hh2
    have h23 : DdAll (hide u H3) xs ds := h2.mono (k2.trans k3)
    have k13 : Kept u H H3 := k1.trans (k2.trans k3)
    obtain ⟨kn, rfl⟩ : ∃ kn : Nat, kk = (kn : Int) := ⟨kk.toNat, by omega⟩
    have hkn : kn < ds.length := by omega
    have a3 : H3 a = some (.tup xs) := hide_sub _ _ hh3
    have eto : cutV xs none (some (kn : Int)) = xs.take kn := cutV_to xs kn
    have efr : cutV xs (some (kn : Int)) none = xs.drop kn := cutV_from xs kn
    have efr1 : cutV xs (some ((kn : Int) + 1)) none = xs.drop (kn + 1) := cutV_from xs (kn + 1)
    have emid : cutV xs (some (kn : Int)) (some ((kn : Int) + 1)) = (xs.drop kn).take 1 := by
      have := cutV_mid xs kn (kn + 1) (by omega)
      rw [Nat.add_sub_cancel_left] at this
      exact this
    have bigZ : ∀ {n : Nat}, n ≤ 1000 → n ≤ sizeLine := small
    -- list
    refine ⟨_, rfl, rfl, _, rfl, ?_⟩
    refine ite2 (fun c => ?_) (fun c => ?_)
    · refine ⟨_, rfl, a, xs, rfl, .inr (.of a3), fun p np => ?_⟩
      have s4 := same_new np (.lst xs)
      refine q (.ref p) (.list ds) _ (.lst (hide_in (ne_urn u3 np) upd_same) (h23.mono (hide_mono s4))) (wf_mono (m + 1) (m + 1 + 3) _ (by omega) (wf_lst (by omega) fun d hd => wfT_wf m d (hall d hd))) (k13.trans (hide_mono s4)) ((u3.same s4).le (by omega))
    -- without one
    refine ⟨_, rfl, rfl, _, rfl, ?_⟩
    refine ite2 (fun c => ?_) (fun c => ?_)
    · refine ⟨_, rfl, _, rfl, _, rfl, a, xs, rfl, a3, fun p4 H4 s4 e4 => ?_⟩
      refine ⟨_, rfl, _, rfl, _, _, rfl, rfl, _, rfl, a, xs, rfl, s4 _ _ a3, fun p5 H5 s5 e5 => ?_⟩
      rw [eto] at e4
      rw [efr1] at e5
      refine ⟨p4, p5, _, _, rfl, rfl, s5 _ _ e4, e5, ?_, fun p6 H6 s6 e6 => ?_⟩
      · rw [List.length_take, List.length_drop]
        exact bigZ (by omega)
      have s36 := s4.trans (s5.trans s6)
      have dd6 := h23.mono (hide_mono s36)
      have u6 := u3.same s36
      obtain ⟨ua, ub, uc, ux, _⟩ := u6
      refine q (.ref p6) (.tuple (ds.take kn ++ ds.drop (kn + 1))) H6 (.tup (hide_in (ne_of e6 ux (by intro z; cases z)) e6) ((dd6.take kn).append (dd6.drop (kn + 1)))) (wf_tup (n := m + 3) ?_ fun d hd => ?_) (k13.trans (hide_mono s36)) ((u3.same s36).le (by omega))
      · rw [List.length_append, List.length_take, List.length_drop]
        omega
      · rcases List.mem_append.mp hd with hd | hd
        · exact hwf d (List.mem_of_mem_take hd)
        · exact hwf d (List.mem_of_mem_drop hd)
    -- one doubled
    refine ⟨_, rfl, rfl, _, rfl, ?_⟩
    refine ite2 (fun c => ?_) (fun c => ?_)
    · refine ⟨_, rfl, _, rfl, _, rfl, a, xs, rfl, a3, fun p4 H4 s4 e4 => ?_⟩
      refine ⟨_, rfl, _, rfl, _, rfl, _, rfl, _, _, rfl, rfl, _, rfl, a, xs, rfl, s4 _ _ a3, fun p5 H5 s5 e5 => ?_⟩
      rw [eto] at e4
      rw [emid] at e5
      refine ⟨p4, p5, _, _, rfl, rfl, s5 _ _ e4, e5, ?_, fun p6 H6 s6 e6 => ?_⟩
      · rw [List.length_take, List.length_take, List.length_drop]
        exact bigZ (by omega)
      have s36 := s4.trans (s5.trans s6)
      refine ⟨_, rfl, _, rfl, _, rfl, a, xs, rfl, s36 _ _ a3, fun p7 H7 s7 e7 => ?_⟩
      rw [efr] at e7
      refine ⟨p6, p7, _, _, rfl, rfl, s7 _ _ e6, e7, ?_, fun p8 H8 s8 e8 => ?_⟩
      · rw [List.length_append, List.length_take, List.length_take, List.length_drop]
        exact bigZ (by omega)
      have s38 := s36.trans (s7.trans s8)
      have dd8 := h23.mono (hide_mono s38)
      have u8 := u3.same s38
      obtain ⟨ua, ub, uc, ux, _⟩ := u8
      refine q (.ref p8) (.tuple (ds.take kn ++ (ds.drop kn).take 1 ++ ds.drop kn)) H8 (.tup (hide_in (ne_of e8 ux (by intro z; cases z)) e8) (((dd8.take kn).append ((dd8.drop kn).take 1)).append (dd8.drop kn))) (wf_tup (n := m + 3) ?_ fun d hd => ?_) (k13.trans (hide_mono s38)) ((u3.same s38).le (by omega))
      · rw [List.length_append, List.length_append, List.length_take, List.length_take, List.length_drop]
        omega
      · rcases List.mem_append.mp hd with hd | hd
        · rcases List.mem_append.mp hd with hd | hd
          · exact hwf d (List.mem_of_mem_take hd)
          · exact hwf d (List.mem_of_mem_drop (List.mem_of_mem_take hd))
        · exact hwf d (List.mem_of_mem_drop hd)
    -- one put in
    refine ⟨_, rfl, rfl, _, rfl, ?_⟩
    refine ite2 (fun c => ?_) (fun c => ?_)
    · refine ⟨_, rfl, _, rfl, _, rfl, a, xs, rfl, a3, fun p4 H4 s4 e4 => ?_⟩
      rw [eto] at e4
      have k14 : Kept u H1 H4 := (k2.trans k3).trans (hide_mono s4)
      refine ⟨_, rfl, _, rfl, one H4 n _ k14 ((u3.same s4).le (by omega)) fun z dz H5 hz wz k5 u5 => ?_⟩
      have k35 : Kept u H3 H5 := (hide_mono s4).trans k5
      have e45 : hide u H5 p4 = some (.tup (xs.take kn)) := by
        refine k5 _ _ (hide_in ?_ e4)
        obtain ⟨ua, ub, uc, ux, _⟩ := u3.same s4
        exact ne_of e4 ux (by intro z; cases z)
      refine ⟨by show 1 ≤ sizeLine; decide, fun p6 np6 => ?_⟩
      have s6 := same_new np6 (.tup [z])
      have e6 : upd H5 p6 (.tup [z]) p6 = some (.tup [z]) := upd_same
      have u6 := u5.same s6
      generalize upd H5 p6 (.tup [z]) = H6 at s6 e6 u6 ⊢
      refine ⟨p4, p6, _, _, rfl, rfl, s6 _ _ (hide_sub _ _ e45), e6, ?_, fun p7 H7 s7 e7 => ?_⟩
      · rw [List.length_take]
        show _ + 1 ≤ sizeLine
        exact bigZ (by omega)
      have k37 : Kept u H3 H7 := k35.trans (hide_mono (s6.trans s7))
      refine ⟨_, rfl, _, rfl, _, rfl, a, xs, rfl, hide_sub _ _ (k37 _ _ hh3), fun p8 H8 s8 e8 => ?_⟩
      rw [efr] at e8
      refine ⟨p7, p8, _, _, rfl, rfl, s8 _ _ e7, e8, ?_, fun p9 H9 s9 e9 => ?_⟩
      · rw [List.length_append, List.length_take, List.length_drop]
        show _ + 1 + _ ≤ sizeLine
        exact bigZ (by omega)
      have s59 := s6.trans (s7.trans (s8.trans s9))
      have k39 : Kept u H3 H9 := k35.trans (hide_mono s59)
      have dd9 := h23.mono k39
      have u9 := u5.same s59
      obtain ⟨ua, ub, uc, ux, _⟩ := id u9
      refine q (.ref p9) (.tuple (ds.take kn ++ [dz] ++ ds.drop kn)) H9 (.tup (hide_in (ne_of e9 ux (by intro z; cases z)) e9) (((dd9.take kn).append (.cons (hz.mono (hide_mono s59)) .nil)).append (dd9.drop kn))) (wf_tup (n := m + 3) ?_ fun d hd => ?_) (k13.trans k39) u9
      · rw [List.length_append, List.length_append, List.length_take, List.length_drop]
        show _ + 1 + _ ≤ 1000
        omega
      · rcases List.mem_append.mp hd with hd | hd
        · rcases List.mem_append.mp hd with hd | hd
          · exact hwf d (List.mem_of_mem_take hd)
          · have : d = dz := by simpa using hd
            rw [this]
            exact wf_mono 3 (m + 3) _ (by omega) wz
        · exact hwf d (List.mem_of_mem_drop hd)
    -- one bent
    obtain ⟨dp, rfl⟩ : ∃ dp : Nat, deep = dp + 1 := ⟨deep - 1, by omega⟩
    refine ⟨_, rfl, _, rfl, _, rfl, a, xs, rfl, a3, fun p4 H4 s4 e4 => ?_⟩
    rw [eto] at e4
    have e4u : hide u H4 p4 = some (.tup (xs.take kn)) := by
      obtain ⟨ua, ub, uc, ux, _⟩ := u3.same s4
      exact hide_in (ne_of e4 ux (by intro z; cases z)) e4
    have hkx : kn < xs.length := by omega
    obtain ⟨dk, g1, g2⟩ := (h23.mono (hide_mono s4)).get (List.getElem?_eq_getElem hkx)
    refine ⟨_, rfl, _, rfl, _, rfl, a, xs, _, xs[kn], rfl, rfl, .of (s4 _ _ a3), atI_nat (List.getElem?_eq_getElem hkx), _, rfl, _, _, rfl, rfl, u, xs[kn], dp, dk, m, n, by show [V.ref u, xs[kn], V.int (((dp + 1 : Nat) : Int) - 1)] = _; rw [show (((dp + 1 : Nat) : Int) - 1) = (dp : Int) by omega], by omega, (u3.same s4).le (by omega), g2, hall dk (List.mem_of_getElem? g1), by omega, fun z dz H5 hz wz k5 u5 => ?_⟩
    have k35 : Kept u H3 H5 := (hide_mono s4).trans k5
    have e45 : hide u H5 p4 = some (.tup (xs.take kn)) := k5 _ _ e4u
    refine ⟨by show 1 ≤ sizeLine; decide, fun p6 np6 => ?_⟩
    have s6 := same_new np6 (.tup [z])
    have e6 : upd H5 p6 (.tup [z]) p6 = some (.tup [z]) := upd_same
    have u6 := u5.same s6
    generalize upd H5 p6 (.tup [z]) = H6 at s6 e6 u6 ⊢
    refine ⟨p4, p6, _, _, rfl, rfl, s6 _ _ (hide_sub _ _ e45), e6, ?_, fun p7 H7 s7 e7 => ?_⟩
    · rw [List.length_take]
      show _ + 1 ≤ sizeLine
      exact bigZ (by omega)
    have k37 : Kept u H3 H7 := k35.trans (hide_mono (s6.trans s7))
    refine ⟨_, rfl, _, rfl, _, _, rfl, rfl, _, rfl, a, xs, rfl, hide_sub _ _ (k37 _ _ hh3), fun p8 H8 s8 e8 => ?_⟩
    rw [efr1] at e8
    refine ⟨p7, p8, _, _, rfl, rfl, s8 _ _ e7, e8, ?_, fun p9 H9 s9 e9 => ?_⟩
    · rw [List.length_append, List.length_take, List.length_drop]
      show _ + 1 + _ ≤ sizeLine
      exact bigZ (by omega)
    have s59 := s6.trans (s7.trans (s8.trans s9))
    have k39 : Kept u H3 H9 := k35.trans (hide_mono s59)
    have dd9 := h23.mono k39
    have u9 := u5.same s59
    obtain ⟨ua, ub, uc, ux, _⟩ := id u9
    refine q (.ref p9) (.tuple (ds.take kn ++ [dz] ++ ds.drop (kn + 1))) H9 (.tup (hide_in (ne_of e9 ux (by intro z; cases z)) e9) (((dd9.take kn).append (.cons (hz.mono (hide_mono s59)) .nil)).append (dd9.drop (kn + 1)))) (wf_tup (n := m + 3) ?_ fun d hd => ?_) (k13.trans k39) u9
    · rw [List.length_append, List.length_append, List.length_take, List.length_drop]
      show _ + 1 + _ ≤ 1000
      omega
    · rcases List.mem_append.mp hd with hd | hd
      · rcases List.mem_append.mp hd with hd | hd
        · exact hwf d (List.mem_of_mem_take hd)
        · have : d = dz := by simpa using hd
          rw [this]
          exact wz
      · exact hwf d (List.mem_of_mem_drop hd)
  | non => exact iteT (iteT ⟨_, rfl, _, rfl, one H1 n Q (.refl _) (u1.le (by omega)) give⟩)
  | bl b => exact iteT (iteT ⟨_, rfl, _, rfl, one H1 n Q (.refl _) (u1.le (by omega)) give⟩)
  | int i => exact iteT (iteT ⟨_, rfl, _, rfl, one H1 n Q (.refl _) (u1.le (by omega)) give⟩)
  | str x => exact iteT (iteT ⟨_, rfl, _, rfl, one H1 n Q (.refl _) (u1.le (by omega)) give⟩)
  | lst _ _ => exact iteT (iteT ⟨_, rfl, _, rfl, one H1 n Q (.refl _) (u1.le (by omega)) give⟩)
theorem bent_none : FnOk P w K mg base CX0 (0 + 2) f fd ["_law_urn", "_law_bit", "_law_deep"] (spBent 0) := by
  have no : ∀ vs H Q E, ¬ spBent 0 vs H Q E := fun vs H Q E h => by
    obtain ⟨u, v, deep, d, m, n, _, h1, _⟩ := h
    omega
  exact ⟨fun vs H Q E h => absurd h (no vs H Q E), fun A outer s H args us vs Q E _ _ _ _ h => absurd h (no vs H Q E)⟩
theorem has_bent (B : Bts mg) (gT : Has P w K mg base 1 "_law_take" ["_law_urn", "_law_low_so"] spTake) (gO : Has P w K mg base 2 "_law_of" ["_law_urn", "_law_some_so"] spOf) (F : Fun K "_law_bent" "_law_bent" (topS 27) f fd) (b : Binds K fd ["_law_urn", "_law_bit", "_law_deep"] []) (m : mg "_law_bent" = some (.ref f)) :
    ∀ j : Nat, Has P w K mg base (j + 2) "_law_bent" ["_law_urn", "_law_bit", "_law_deep"] (spBent j)
  | 0 => ⟨f, fd, bent_none, m, F.kp, b⟩
  | j + 1 => ⟨f, fd, ok_bent B gT gO (has_bent B gT gO F b m j) F, m, F.kp, b⟩
end
end Lf

set_option maxHeartbeats 4000000
namespace Lf
open PySem PySem.Spec PyProof.Rows L2

/-! ## calls by keyword -/
section
variable {X : Cx} {CX : CXT} {k : Nat} {f : Addr} {fd : FuncData} {ps ks : List Str} {sp : Sp} {E : XK} {x : Str} {p pos : Pos} {kws : List Keyword} {tk : TA} {g : List Value → List Value → List Value} {gV : List V → List V → List V}
theorem pe_kw0 (F : FnOk X.prog X.w X.K X.mg X.base CX k f fd ps sp) (hr : Room k X.A) (hg : Gl X x) (hm : X.mg x = some (.ref f)) (hk : PySem.W.keepIn X.K (.ref f) = true) (hb : KBinds X.K fd ps ks g gV) (hx : Passes CX X E)
    (hkw : PK X kws tk) (hall : (backToKw pos (keywordEach kws X.env)).all (·.1.isSome) = true := by rfl) (hks : (backToKw pos (keywordEach kws X.env)).filterMap (·.1) = ks := by rfl)
    (hdb : (x == ("__debug__" : Str)) = false := by decide)
    (hpl : ((backTo pos (starEach [] X.env)).any (·.1) || (backToKw pos (keywordEach kws X.env)).any (·.1.isNone)) = false := by rfl) :
    PE X (.Call (.Name x p) [] kws pos) (tCallK sp gV E tNil tk) := by
  refine ⟨fun pins s σ H Q I h => ?_⟩
  refine wpAny_Call_Name_kw (ld_glob I hg hm ?_ hdb)
  refine PySem.W.callWith_KW0 (h₀ := X.base) I.ok.mod.kin hk hall ?_ hpl
  refine thn (hkw.run pos pins s σ H _ I h) fun ws s2 ⟨zs, H2, I2, rz, q2⟩ => ⟨I2.kIn, ?_⟩
  rw [hks]
  exact run_fnk (us := []) (vs := []) F hr hb hx I2 .nil rz q2
end
/-- a def of one parameter that is called by the parameter's name, too -/
structure HasK (P : Program) (w : World) (K : PySem.W.Frag) (mg : Str → Option Value) (base : Heap) (k : Nat) (x : Str) (sp : Sp) : Prop where
  ex : ∃ (f : Addr) (fd : FuncData), FnOk P w K mg base CX0 k f fd ["thing"] sp ∧ mg x = some (.ref f) ∧ PySem.W.keepIn K (.ref f) = true ∧ Binds K fd ["thing"] [] ∧ KBinds K fd ["thing"] ["thing"] (fun us ws => us ++ ws) (fun vs zs => vs ++ zs)
section
variable {P : Program} {w : World} {K : PySem.W.Frag} {mg : Str → Option Value} {base : Heap} {k : Nat} {x : Str} {sp : Sp}
theorem HasK.has (h : HasK P w K mg base k x sp) : Has P w K mg base k x ["thing"] sp := by
  obtain ⟨f, fd, a, b, c, d, _⟩ := h.ex
  exact ⟨f, fd, a, b, c, d⟩
end
section
variable {X : Cx} {k : Nat} {x : Str} {sp : Sp} {p pos : Pos} {kws : List Keyword} {tk : TA}
theorem pe_hasK (G : HasK X.prog X.w X.K X.mg X.base k x sp) (hr : Room k X.A) (hkw : PK X kws tk) (hg : Gl X x := by rfl) (hall : (backToKw pos (keywordEach kws X.env)).all (·.1.isSome) = true := by rfl)
    (hks : (backToKw pos (keywordEach kws X.env)).filterMap (·.1) = [("thing" : Str)] := by rfl) (hdb : (x == ("__debug__" : Str)) = false := by decide)
    (hpl : ((backTo pos (starEach [] X.env)).any (·.1) || (backToKw pos (keywordEach kws X.env)).any (·.1.isNone)) = false := by rfl) :
    PE X (.Call (.Name x p) [] kws pos) (tCallK sp (fun vs zs => vs ++ zs) E0 tNil tk) := by
  obtain ⟨f, fd, ok, m, kp, _, b⟩ := G.ex
  exact pe_kw0 ok hr hg m kp b pass0 hkw hall hks hdb hpl
end

/-! ## known data in the names of a def -/
abbrev Wi : Hp → Hp := fun H => H
abbrev Ni : Hp → Prop := fun _ => True
/-- the names' data -/
structure Hs (H : Hp) (σ : L2.St) (ds : List (Option PyData)) : Prop where
  len : σ.length = ds.length
  get : ∀ (i : Nat) (d : PyData), ds[i]? = some (some d) → ∃ v, σ[i]? = some (some v) ∧ Dd H v d
theorem Hs.mono {H H' : Hp} {σ : L2.St} {ds : List (Option PyData)} (h : Hs H σ ds) (s : Same H H') : Hs H' σ ds := ⟨h.len, fun i d e => by
  obtain ⟨v, h1, h2⟩ := h.get i d e
  exact ⟨v, h1, h2.mono s⟩⟩
theorem Hs.set {H : Hp} {σ : L2.St} {ds : List (Option PyData)} {i : Nat} {v : V} {d : PyData} (h : Hs H σ ds) (hd : Dd H v d) : Hs H (σ.set i (some v)) (ds.set i (some d)) := by
  refine ⟨by rw [List.length_set, List.length_set]; exact h.len, fun j e hj => ?_⟩
  rw [List.getElem?_set] at hj ⊢
  by_cases hij : i = j
  · rw [if_pos hij] at hj ⊢
    split at hj
    · rename_i hl
      cases hj
      exact ⟨v, by rw [if_pos (by have := h.len; omega)], hd⟩
    · cases hj
  · rw [if_neg hij] at hj ⊢
    exact h.get j e hj
section
variable {σ : L2.St} {H : Hp} {ds : List (Option PyData)}
theorem gv_at {i : Nat} {d : PyData} (hs : Hs H σ ds) (e : ds[i]? = some (some d)) : Gv Wi Ni (tVar i) σ H d := by
  obtain ⟨v, h1, h2⟩ := hs.get i d e
  exact gv_var vw_id h1 h2
theorem gv_step {T : TE} {rest : TS} {D : Ends} {d : PyData} {i : Nat} (hs : Hs H σ ds) (h : Gv Wi Ni T σ H d) (k : ∀ v H', Same H H' → Hs H' (σ.set i (some v)) (ds.set i (some d)) → rest D (σ.set i (some v)) H') : tSeq (tAsg T (gName i)) rest D σ H :=
  gv_set h trivial fun v H' s hd => k v H' s ((hs.mono s).set hd)
theorem gv_cat {ta tb : TE} {ds es : List PyData} (h : Gv Wi Ni ta σ H (.list ds)) (h' : Gv Wi Ni tb σ H (.list es)) (hl : ds.length + es.length ≤ 1000) : Gv Wi Ni (tOp rCat ta tb) σ H (.list (ds ++ es)) := fun H1 s1 n1 Q q =>
  h H1 s1 n1 _ fun v H2 s2 hd => h' H2 (s1.trans s2) trivial _ fun v' H3 s3 hd' => by
    have hd3 := Dd.mono s3 hd
    cases hd3 with
    | @lst a xs _ a1 a2 =>
      cases hd' with
      | @lst b ys _ b1 b2 =>
        refine ⟨a, b, xs, ys, rfl, rfl, a1, b1, ?_, fun p np => ?_⟩
        · rw [a2.length, b2.length]
          exact small hl
        · have s4 := same_new np (.lst (xs ++ ys))
          exact q (.ref p) _ (s2.trans (s3.trans s4)) (.lst upd_same ((a2.mono s4).append (b2.mono s4)))
theorem ddAll_rep {H : Hp} {xs : List V} {ds : List PyData} (h : DdAll H xs ds) : ∀ n : Nat, DdAll H (List.replicate n xs).flatten (List.replicate n ds).flatten
  | 0 => .nil
  | n + 1 => by
    rw [List.replicate_succ, List.replicate_succ, List.flatten_cons, List.flatten_cons]
    exact h.append (ddAll_rep h n)
theorem gv_rep {ta : TE} {ds : List PyData} {n : Nat} {k : Int} (h : Gv Wi Ni ta σ H (.list ds)) (hl : ds.length * n ≤ 1000) (hn : n ≤ 1000) (hk : k = (n : Int)) : Gv Wi Ni (tOp rRep ta (tC (.int k))) σ H (.list (List.replicate n ds).flatten) := fun H1 s1 n1 Q q => by
  subst hk
  exact h H1 s1 n1 _ fun v H2 s2 hd => by
    cases hd with
    | @lst a xs _ a1 a2 =>
      refine ⟨a, n, xs, rfl, rfl, a1, by omega, by omega, ?_, fun p np => ?_⟩
      · rw [a2.length]
        exact small hl
      · have s4 := same_new np (.lst (List.replicate n xs).flatten)
        exact q (.ref p) _ (s2.trans s4) (.lst upd_same ((ddAll_rep a2 n).mono s4))
/-- the answers of a test -/
def ans (p : PyData → Bool) (es : List PyData) : PyData := .list (es.map fun d => .bool (p d))
theorem ddAll_bls {H : Hp} : ∀ bs : List Bool, DdAll H (bs.map V.bl) (bs.map PyData.bool)
  | [] => .nil
  | b :: bs => .cons (.bl b) (ddAll_bls bs)
theorem gv_comp {K : PySem.W.Frag} {i s : Nat} {es : List PyData} {p : PyData → Bool} (hs : Hs H σ ds) (e : ds[i]? = some (some (.list es))) (hsl : s < ds.length) (hw : es.all (wf 12) = true) (hl : es.length ≤ 1000) :
    Gv Wi Ni (tLc (iList K (tVar i)) (gName s) tYes (tCall (spD p) [] E0 (tCons (tVar s) tNil)) [s]) σ H (ans p es) := fun H1 s1 n1 Q q => by
  obtain ⟨v, h1, h2⟩ := (hs.mono s1).get i _ e
  have hall := List.all_eq_true.mp hw
  have hσ : s < σ.length := by rw [hs.len]; exact hsl
  cases h2 with
  | @lst a xs _ a1 a2 =>
    refine ⟨_, h1, a, rfl, ⟨xs, .of a1⟩, fun D nD => ?_⟩
    refine lc_test p (walk_list (K := K) (a := a)) (fun H2 s2 => .of (s2 _ _ a1)) a2 nD hl (fun v => ?_) (fun v d H2 R hm hv s2 r => ?_) (fun H2 s2 hD => ?_)
    · show ((((σ.set s none).set s (some v)).set s none) : L2.St) = σ.set s none
      rw [List.set_set, List.set_set]
    · refine ⟨v, ?_, v, d, 12, rfl, hv, hall d hm, by decide, r⟩
      show (((σ.set s none).set s (some v)) : L2.St)[s]? = some (some v)
      rw [List.getElem?_set, if_pos rfl, if_pos (by rw [List.length_set]; exact hσ)]
    · refine q (.ref D) H2 s2 ?_
      have hb := ddAll_bls (H := H2) (es.map p)
      rw [List.map_map (f := p) (g := PyData.bool)] at hb
      exact .lst hD hb
theorem gv_kw {te : TE} {d : PyData} {p : PyData → Bool} (h : Gv Wi Ni te σ H d) (hw : wf 12 d = true) : Gv Wi Ni (tCallK (spD p) (fun vs zs => vs ++ zs) E0 tNil (tCons te tNil)) σ H (.bool (p d)) := fun H1 s1 n1 Q q =>
  h H1 s1 n1 _ fun v H2 s2 hd => ⟨v, d, 12, rfl, hd, hw, by decide, fun H3 s3 => q _ H3 (s2.trans s3) (.bl _)⟩
end
theorem ans_rep {p : PyData → Bool} {b : Bool} : ∀ {es : List PyData} {n : Nat}, es.all (fun d => p d == b) = true → es.length = n → ans p es = .list (List.replicate n [PyData.bool b]).flatten := by
  intro es n h e
  subst e
  unfold ans
  congr 1
  induction es with
  | nil => rfl
  | cons d es ih =>
    rw [List.all_cons, Bool.and_eq_true] at h
    rw [List.length_cons, List.replicate_succ, List.flatten_cons, List.map_cons, ih h.2, eq_of_beq h.1]
    rfl
end Lf

set_option maxHeartbeats 4000000
namespace Lf
open PySem PySem.Spec PyProof.Rows L2

/-! ## what is asked by hand -/
abbrev pD : PyData := .tuple [.str "a", .str "b"]
abbrev qD : PyData := .tuple [.str "a", .str "c"]
abbrev rD : PyData := .tuple [.str "b", .str "c"]
abbrev t2 (a b : PyData) : PyData := .tuple [a, b]
abbrev t3 (a b c : PyData) : PyData := .tuple [a, b, c]
abbrev s2 (a b : Str) : PyData := .tuple [.str a, .str b]
def fine1 : List PyData := [pD, s2 "ab" "b", s2 "a" "ab", s2 "abcdefgh" "b"]
def odd1a : List PyData := [s2 "b" "a", s2 "a" "a", .list [.str "a", .str "b"], .tuple [.str "a"], .tuple [.str "a", .str "b", .str "c"], s2 "a" "abcdefghi", s2 "" "a"]
def odd1b : List PyData := [s2 "a" "B", t2 (.str "a") .none]
def odd1c : List PyData := [t2 (.str "a") (.int 1), .none, .str "ab", .int 5, .bool true, .tuple [], t2 (.str "a") (.tuple [.str "b"]), .tuple [pD], .str "a", s2 "a b" "c", s2 "a" "b-"]
def fine2 : List PyData := [.tuple [], .tuple [pD], .tuple [pD, qD], .tuple [qD, rD], .tuple [pD, qD, rD]]
def odd2 : List PyData := [.list [pD], .tuple [qD, pD], .tuple [pD, pD], .tuple [s2 "b" "a"], .tuple [.list [.str "a", .str "b"]], pD, .none, .int 5, .str "", .bool true, .tuple [pD, .none], .tuple [.tuple []], .tuple [.str "ab"]]
def fine3 : List PyData := [t2 (.tuple [pD]) qD, t2 (.tuple [pD, qD]) rD, t2 (.tuple [s2 "ab" "b"]) (s2 "a" "ab")]
def odd3a : List PyData := [t2 (.tuple []) qD, t2 (.tuple [pD]) pD, t2 (.tuple [pD, qD]) pD, t2 (.list [pD]) qD, .list [.tuple [pD], qD], t2 (.tuple [pD]) (.list [.str "a", .str "c"]), t2 (.tuple [qD, pD]) rD, t2 pD qD]
def odd3b : List PyData := [.tuple [.tuple [pD]], t3 (.tuple [pD]) qD rD]
def odd3c : List PyData := [.none, .int 5, .str "", t2 (.tuple [pD]) .none, t2 (.tuple [pD]) (.tuple [qD]), t2 (.tuple [.tuple [pD]]) qD, t2 (.tuple [pD]) (.str "ac"), .bool true, .tuple [], t2 (.tuple [pD]) (s2 "b" "a")]
def fine4 : List PyData := [t3 (.str "x") (.tuple []) (.tuple []), t3 (.str "x") (.tuple [pD]) (.tuple [pD]), t3 (.str "abcdefgh") (.tuple [pD, qD]) (.tuple []), t3 (.str "a") (.tuple []) (.tuple [qD, rD])]
def odd4a : List PyData := [t2 (.str "x") (.tuple []), .tuple [.str "x", .tuple [], .tuple [], .tuple []], .list [.str "x", .tuple [], .tuple []], t3 (.str "x") (.list []) (.tuple []), t3 (.str "x") (.tuple []) (.list [pD]), t3 (.str "X") (.tuple []) (.tuple [])]
def odd4b : List PyData := [t3 (.str "") (.tuple []) (.tuple []), t3 (.int 1) (.tuple []) (.tuple [])]
def odd4c : List PyData := [t3 (.str "abcdefghi") (.tuple []) (.tuple []), t3 (.str "x") (.tuple [qD, pD]) (.tuple []), t3 (.str "x") (.tuple []) (.tuple [pD, pD]), t3 (.str "x") pD (.tuple []), .none, .str "x", .bool true]
def odd4d : List PyData := [t3 (.str "x") .none (.tuple [])]
theorem a_fine1 : ans twoD fine1 = .list (List.replicate 4 [PyData.bool true]).flatten := ans_rep (by decide +kernel) rfl
theorem a_odd1 : ans twoD (odd1a ++ odd1b ++ odd1c) = .list (List.replicate 20 [PyData.bool false]).flatten := ans_rep (by decide +kernel) rfl
theorem a_fine2 : ans twosD fine2 = .list (List.replicate 5 [PyData.bool true]).flatten := ans_rep (by decide +kernel) rfl
theorem a_odd2 : ans twosD odd2 = .list (List.replicate 13 [PyData.bool false]).flatten := ans_rep (by decide +kernel) rfl
theorem a_fine3 : ans lawD fine3 = .list (List.replicate 3 [PyData.bool true]).flatten := ans_rep (by decide +kernel) rfl
theorem a_odd3 : ans lawD (odd3a ++ odd3b ++ odd3c) = .list (List.replicate 20 [PyData.bool false]).flatten := ans_rep (by decide +kernel) rfl
theorem a_fine4 : ans tideD fine4 = .list (List.replicate 4 [PyData.bool true]).flatten := ans_rep (by decide +kernel) rfl
theorem a_odd4 : ans tideD (odd4a ++ odd4b ++ odd4c ++ odd4d) = .list (List.replicate 16 [PyData.bool false]).flatten := ans_rep (by decide +kernel) rfl
theorem k_two : twoD pD = true := by decide +kernel
theorem k_twos : twosD (.tuple [pD]) = true := by decide +kernel
theorem k_law : lawD (t2 (.tuple [pD]) qD) = true := by decide +kernel
theorem k_tide : tideD (t3 (.str "x") (.tuple []) (.tuple [])) = true := by decide +kernel
end Lf

set_option maxHeartbeats 16000000
namespace Lf
open PySem PySem.Spec PyProof.Rows L2

section
variable {σ : L2.St} {H : Hp} {ds : List (Option PyData)}
theorem gv_step3 {K : PySem.W.Frag} {T : TE} {rest : TS} {D : Ends} {d0 d1 d2 : PyData} (hs : Hs H σ ds) (h : Gv Wi Ni T σ H (.tuple [d0, d1, d2]))
    (k : ∀ v0 v1 v2 H', Same H H' → Hs H' (((σ.set 0 (some v0)).set 1 (some v1)).set 2 (some v2)) (((ds.set 0 (some d0)).set 1 (some d1)).set 2 (some d2)) → rest D (((σ.set 0 (some v0)).set 1 (some v1)).set 2 (some v2)) H') :
    tSeq (tAsg T (gTup K 3 (gCons (gName 0) (gCons (gName 1) (gCons (gName 2) gNil))))) rest D σ H := by
  refine h H (.refl H) trivial _ fun v H' s hd => ?_
  cases hd with
  | @tup a xs _ h1 h2 =>
    cases h2 with
    | @cons v0 _ _ _ k0 t0 =>
      cases t0 with
      | @cons v1 _ _ _ k1 t1 =>
        cases t1 with
        | @cons v2 _ _ _ k2 t2 =>
          cases t2
          exact ⟨a, _, rfl, .of h1, rfl, _, _, rfl, _, _, rfl, _, _, rfl, rfl, k v0 v1 v2 H' s ((((hs.mono s).set k0).set k1).set k2)⟩
theorem gv_ret {sp : Sp} {ta : TA} {D : Ends} {es : List PyData} (h : GvA Wi Ni ta σ H es) (k : ∀ vs H', Same H H' → DdAll H' vs es → sp (vs ++ []) H' D.rt E0) : tRet (tCall sp [] E0 ta) D σ H := h H (.refl H) trivial _ k
end
/-- by hand: all is as it should be -/
def spHand : Sp := fun vs H Q _ => vs = [] ∧ ∀ H', Same H H' → Q (.bl true) H'
abbrev nHand : List Str := ["_law_p", "_law_q", "_law_r", "_law_fine", "_law_odd", "_law_got", "_law_goal", "_law_own"]
section
variable {P : Program} {w : World} {K : PySem.W.Frag} {mg : Str → Option Value} {base : Heap} {f : Addr} {fd : FuncData}
theorem scHand : FnScope nHand [] (defScope (topS 28)) := ⟨rfl, rfl, rfl, by decide +kernel, rfl, by decide +kernel, by decide +kernel⟩
theorem ok_hand (B : Bts mg) (g1 : HasK P w K mg base 2 "is_pair" (spD twoD)) (g2 : HasK P w K mg base 3 "is_pairs" (spD twosD)) (g3 : HasK P w K mg base 4 "is_rule" (spD lawD)) (g4 : HasK P w K mg base 4 "is_flood" (spD tideD))
    (gS : Has P w K mg base 4 "_law_same" ["_law_got", "_law_goal"] (spSame 4)) (F : Fun K "_law_by_hand_right" "_law_by_hand_right" (topS 28) f fd) : FnOk P w K mg base CX0 5 f fd [] spHand := by
  refine F.ok scHand (fun vs H Q E h => by rw [h.1]; rfl) (fun cdv A outer s H vs Q E hr h => ?_)
  obtain ⟨rfl, q⟩ := h
  refine ⟨_, (pss_cons (ps_asg (pe_tup (pa_cons (pe_tup (pa_cons pe_str (pa_cons pe_str pa_nil))) (pa_cons (pe_tup (pa_cons pe_str (pa_cons pe_str pa_nil))) (pa_cons (pe_tup (pa_cons pe_str (pa_cons pe_str pa_nil))) pa_nil)))) (pg_tup rfl (pgs_cons (pg_name (i := 0) scHand.nd rfl (Or.inl rfl)) (pgs_cons (pg_name (i := 1) scHand.nd rfl (Or.inl rfl)) (pgs_cons (pg_name (i := 2) scHand.nd rfl (Or.inl rfl)) pgs_nil)))))
    (pss_cons (ps_set (i := 3) scHand.nd rfl (Or.inl rfl) (pe_lst (pa_cons (pv 0) (pa_cons (pe_tup (pa_cons pe_str (pa_cons pe_str pa_nil))) (pa_cons (pe_tup (pa_cons pe_str (pa_cons pe_str pa_nil))) (pa_cons (pe_tup (pa_cons pe_str (pa_cons pe_str pa_nil))) pa_nil))))))
    (pss_cons (ps_set (i := 4) scHand.nd rfl (Or.inl rfl) (pe_lst (pa_cons (pe_tup (pa_cons pe_str (pa_cons pe_str pa_nil))) (pa_cons (pe_tup (pa_cons pe_str (pa_cons pe_str pa_nil))) (pa_cons (pe_lst (pa_cons pe_str (pa_cons pe_str pa_nil))) (pa_cons (pe_tup (pa_cons pe_str pa_nil)) (pa_cons (pe_tup (pa_cons pe_str (pa_cons pe_str (pa_cons pe_str pa_nil)))) (pa_cons (pe_tup (pa_cons pe_str (pa_cons pe_str pa_nil))) (pa_cons (pe_tup (pa_cons pe_str (pa_cons pe_str pa_nil))) pa_nil)))))))))
    (pss_cons (ps_set (i := 4) scHand.nd rfl (Or.inl rfl) (pe_op op_cat (pv 4) (pe_lst (pa_cons (pe_tup (pa_cons pe_str (pa_cons pe_str pa_nil))) (pa_cons (pe_tup (pa_cons pe_str (pa_cons pe_non pa_nil))) pa_nil)))))
    (pss_cons (ps_set (i := 4) scHand.nd rfl (Or.inl rfl) (pe_op op_cat (pv 4) (pe_lst (pa_cons (pe_tup (pa_cons pe_str (pa_cons pe_int pa_nil))) (pa_cons pe_non (pa_cons pe_str (pa_cons pe_int (pa_cons pe_bl (pa_cons (pe_tup pa_nil) (pa_cons (pe_tup (pa_cons pe_str (pa_cons (pe_tup (pa_cons pe_str pa_nil)) pa_nil))) (pa_cons (pe_tup (pa_cons (pv 0) pa_nil)) (pa_cons pe_str (pa_cons (pe_tup (pa_cons pe_str (pa_cons pe_str pa_nil))) (pa_cons (pe_tup (pa_cons pe_str (pa_cons pe_str pa_nil))) pa_nil))))))))))))))
    (pss_cons (ps_set (i := 5) scHand.nd rfl (Or.inl rfl) (pe_lst (pa_cons (pe_lc (own := [("_law_own", 7)]) (g := gName 7) rfl scHand.nd (pi_list (pv 3)) (blkOk_by (own := [("_law_own", 7)]) (N := nHand) (sc := defScope (topS 28)) (by decide +kernel)) (fun _ _ _ _ _ => pg_name (i := 7) scHand.nd rfl (Or.inl rfl)) (fun _ _ _ _ _ => pts_nil) (fun _ _ _ _ _ => pe_has g1.has (hr.mono (by decide)) (pa_cons (pv 7) pa_nil))) (pa_cons (pe_lc (own := [("_law_own", 7)]) (g := gName 7) rfl scHand.nd (pi_list (pv 4)) (blkOk_by (own := [("_law_own", 7)]) (N := nHand) (sc := defScope (topS 28)) (by decide +kernel)) (fun _ _ _ _ _ => pg_name (i := 7) scHand.nd rfl (Or.inl rfl)) (fun _ _ _ _ _ => pts_nil) (fun _ _ _ _ _ => pe_has g1.has (hr.mono (by decide)) (pa_cons (pv 7) pa_nil))) pa_nil))))
    (pss_cons (ps_set (i := 3) scHand.nd rfl (Or.inl rfl) (pe_lst (pa_cons (pe_tup pa_nil) (pa_cons (pe_tup (pa_cons (pv 0) pa_nil)) (pa_cons (pe_tup (pa_cons (pv 0) (pa_cons (pv 1) pa_nil))) (pa_cons (pe_tup (pa_cons (pv 1) (pa_cons (pv 2) pa_nil))) (pa_cons (pe_tup (pa_cons (pv 0) (pa_cons (pv 1) (pa_cons (pv 2) pa_nil)))) pa_nil)))))))
    (pss_cons (ps_set (i := 4) scHand.nd rfl (Or.inl rfl) (pe_lst (pa_cons (pe_lst (pa_cons (pv 0) pa_nil)) (pa_cons (pe_tup (pa_cons (pv 1) (pa_cons (pv 0) pa_nil))) (pa_cons (pe_tup (pa_cons (pv 0) (pa_cons (pv 0) pa_nil))) (pa_cons (pe_tup (pa_cons (pe_tup (pa_cons pe_str (pa_cons pe_str pa_nil))) pa_nil)) (pa_cons (pe_tup (pa_cons (pe_lst (pa_cons pe_str (pa_cons pe_str pa_nil))) pa_nil)) (pa_cons (pv 0) (pa_cons pe_non (pa_cons pe_int (pa_cons pe_str (pa_cons pe_bl (pa_cons (pe_tup (pa_cons (pv 0) (pa_cons pe_non pa_nil))) (pa_cons (pe_tup (pa_cons (pe_tup pa_nil) pa_nil)) (pa_cons (pe_tup (pa_cons pe_str pa_nil)) pa_nil)))))))))))))))
    (pss_cons (ps_set (i := 5) scHand.nd rfl (Or.inl rfl) (pe_op op_cat (pv 5) (pe_lst (pa_cons (pe_lc (own := [("_law_own", 7)]) (g := gName 7) rfl scHand.nd (pi_list (pv 3)) (blkOk_by (own := [("_law_own", 7)]) (N := nHand) (sc := defScope (topS 28)) (by decide +kernel)) (fun _ _ _ _ _ => pg_name (i := 7) scHand.nd rfl (Or.inl rfl)) (fun _ _ _ _ _ => pts_nil) (fun _ _ _ _ _ => pe_has g2.has (hr.mono (by decide)) (pa_cons (pv 7) pa_nil))) (pa_cons (pe_lc (own := [("_law_own", 7)]) (g := gName 7) rfl scHand.nd (pi_list (pv 4)) (blkOk_by (own := [("_law_own", 7)]) (N := nHand) (sc := defScope (topS 28)) (by decide +kernel)) (fun _ _ _ _ _ => pg_name (i := 7) scHand.nd rfl (Or.inl rfl)) (fun _ _ _ _ _ => pts_nil) (fun _ _ _ _ _ => pe_has g2.has (hr.mono (by decide)) (pa_cons (pv 7) pa_nil))) pa_nil)))))
    (pss_cons (ps_set (i := 3) scHand.nd rfl (Or.inl rfl) (pe_lst (pa_cons (pe_tup (pa_cons (pe_tup (pa_cons (pv 0) pa_nil)) (pa_cons (pv 1) pa_nil))) (pa_cons (pe_tup (pa_cons (pe_tup (pa_cons (pv 0) (pa_cons (pv 1) pa_nil))) (pa_cons (pv 2) pa_nil))) (pa_cons (pe_tup (pa_cons (pe_tup (pa_cons (pe_tup (pa_cons pe_str (pa_cons pe_str pa_nil))) pa_nil)) (pa_cons (pe_tup (pa_cons pe_str (pa_cons pe_str pa_nil))) pa_nil))) pa_nil)))))
    (pss_cons (ps_set (i := 4) scHand.nd rfl (Or.inl rfl) (pe_lst (pa_cons (pe_tup (pa_cons (pe_tup pa_nil) (pa_cons (pv 1) pa_nil))) (pa_cons (pe_tup (pa_cons (pe_tup (pa_cons (pv 0) pa_nil)) (pa_cons (pv 0) pa_nil))) (pa_cons (pe_tup (pa_cons (pe_tup (pa_cons (pv 0) (pa_cons (pv 1) pa_nil))) (pa_cons (pv 0) pa_nil))) (pa_cons (pe_tup (pa_cons (pe_lst (pa_cons (pv 0) pa_nil)) (pa_cons (pv 1) pa_nil))) (pa_cons (pe_lst (pa_cons (pe_tup (pa_cons (pv 0) pa_nil)) (pa_cons (pv 1) pa_nil))) (pa_cons (pe_tup (pa_cons (pe_tup (pa_cons (pv 0) pa_nil)) (pa_cons (pe_lst (pa_cons pe_str (pa_cons pe_str pa_nil))) pa_nil))) (pa_cons (pe_tup (pa_cons (pe_tup (pa_cons (pv 1) (pa_cons (pv 0) pa_nil))) (pa_cons (pv 2) pa_nil))) (pa_cons (pe_tup (pa_cons (pv 0) (pa_cons (pv 1) pa_nil))) pa_nil))))))))))
    (pss_cons (ps_set (i := 4) scHand.nd rfl (Or.inl rfl) (pe_op op_cat (pv 4) (pe_lst (pa_cons (pe_tup (pa_cons (pe_tup (pa_cons (pv 0) pa_nil)) pa_nil)) (pa_cons (pe_tup (pa_cons (pe_tup (pa_cons (pv 0) pa_nil)) (pa_cons (pv 1) (pa_cons (pv 2) pa_nil)))) pa_nil)))))
    (pss_cons (ps_set (i := 4) scHand.nd rfl (Or.inl rfl) (pe_op op_cat (pv 4) (pe_lst (pa_cons pe_non (pa_cons pe_int (pa_cons pe_str (pa_cons (pe_tup (pa_cons (pe_tup (pa_cons (pv 0) pa_nil)) (pa_cons pe_non pa_nil))) (pa_cons (pe_tup (pa_cons (pe_tup (pa_cons (pv 0) pa_nil)) (pa_cons (pe_tup (pa_cons (pv 1) pa_nil)) pa_nil))) (pa_cons (pe_tup (pa_cons (pe_tup (pa_cons (pe_tup (pa_cons (pv 0) pa_nil)) pa_nil)) (pa_cons (pv 1) pa_nil))) (pa_cons (pe_tup (pa_cons (pe_tup (pa_cons (pv 0) pa_nil)) (pa_cons pe_str pa_nil))) (pa_cons pe_bl (pa_cons (pe_tup pa_nil) (pa_cons (pe_tup (pa_cons (pe_tup (pa_cons (pv 0) pa_nil)) (pa_cons (pe_tup (pa_cons pe_str (pa_cons pe_str pa_nil))) pa_nil))) pa_nil)))))))))))))
    (pss_cons (ps_set (i := 5) scHand.nd rfl (Or.inl rfl) (pe_op op_cat (pv 5) (pe_lst (pa_cons (pe_lc (own := [("_law_own", 7)]) (g := gName 7) rfl scHand.nd (pi_list (pv 3)) (blkOk_by (own := [("_law_own", 7)]) (N := nHand) (sc := defScope (topS 28)) (by decide +kernel)) (fun _ _ _ _ _ => pg_name (i := 7) scHand.nd rfl (Or.inl rfl)) (fun _ _ _ _ _ => pts_nil) (fun _ _ _ _ _ => pe_has g3.has (hr.mono (by decide)) (pa_cons (pv 7) pa_nil))) (pa_cons (pe_lc (own := [("_law_own", 7)]) (g := gName 7) rfl scHand.nd (pi_list (pv 4)) (blkOk_by (own := [("_law_own", 7)]) (N := nHand) (sc := defScope (topS 28)) (by decide +kernel)) (fun _ _ _ _ _ => pg_name (i := 7) scHand.nd rfl (Or.inl rfl)) (fun _ _ _ _ _ => pts_nil) (fun _ _ _ _ _ => pe_has g3.has (hr.mono (by decide)) (pa_cons (pv 7) pa_nil))) pa_nil)))))
    (pss_cons (ps_set (i := 3) scHand.nd rfl (Or.inl rfl) (pe_lst (pa_cons (pe_tup (pa_cons pe_str (pa_cons (pe_tup pa_nil) (pa_cons (pe_tup pa_nil) pa_nil)))) (pa_cons (pe_tup (pa_cons pe_str (pa_cons (pe_tup (pa_cons (pv 0) pa_nil)) (pa_cons (pe_tup (pa_cons (pv 0) pa_nil)) pa_nil)))) (pa_cons (pe_tup (pa_cons pe_str (pa_cons (pe_tup (pa_cons (pv 0) (pa_cons (pv 1) pa_nil))) (pa_cons (pe_tup pa_nil) pa_nil)))) (pa_cons (pe_tup (pa_cons pe_str (pa_cons (pe_tup pa_nil) (pa_cons (pe_tup (pa_cons (pv 1) (pa_cons (pv 2) pa_nil))) pa_nil)))) pa_nil))))))
    (pss_cons (ps_set (i := 4) scHand.nd rfl (Or.inl rfl) (pe_lst (pa_cons (pe_tup (pa_cons pe_str (pa_cons (pe_tup pa_nil) pa_nil))) (pa_cons (pe_tup (pa_cons pe_str (pa_cons (pe_tup pa_nil) (pa_cons (pe_tup pa_nil) (pa_cons (pe_tup pa_nil) pa_nil))))) (pa_cons (pe_lst (pa_cons pe_str (pa_cons (pe_tup pa_nil) (pa_cons (pe_tup pa_nil) pa_nil)))) (pa_cons (pe_tup (pa_cons pe_str (pa_cons (pe_lst pa_nil) (pa_cons (pe_tup pa_nil) pa_nil)))) (pa_cons (pe_tup (pa_cons pe_str (pa_cons (pe_tup pa_nil) (pa_cons (pe_lst (pa_cons (pv 0) pa_nil)) pa_nil)))) (pa_cons (pe_tup (pa_cons pe_str (pa_cons (pe_tup pa_nil) (pa_cons (pe_tup pa_nil) pa_nil)))) pa_nil))))))))
    (pss_cons (ps_set (i := 4) scHand.nd rfl (Or.inl rfl) (pe_op op_cat (pv 4) (pe_lst (pa_cons (pe_tup (pa_cons pe_str (pa_cons (pe_tup pa_nil) (pa_cons (pe_tup pa_nil) pa_nil)))) (pa_cons (pe_tup (pa_cons pe_int (pa_cons (pe_tup pa_nil) (pa_cons (pe_tup pa_nil) pa_nil)))) pa_nil)))))
    (pss_cons (ps_set (i := 4) scHand.nd rfl (Or.inl rfl) (pe_op op_cat (pv 4) (pe_lst (pa_cons (pe_tup (pa_cons pe_str (pa_cons (pe_tup pa_nil) (pa_cons (pe_tup pa_nil) pa_nil)))) (pa_cons (pe_tup (pa_cons pe_str (pa_cons (pe_tup (pa_cons (pv 1) (pa_cons (pv 0) pa_nil))) (pa_cons (pe_tup pa_nil) pa_nil)))) (pa_cons (pe_tup (pa_cons pe_str (pa_cons (pe_tup pa_nil) (pa_cons (pe_tup (pa_cons (pv 0) (pa_cons (pv 0) pa_nil))) pa_nil)))) (pa_cons (pe_tup (pa_cons pe_str (pa_cons (pv 0) (pa_cons (pe_tup pa_nil) pa_nil)))) (pa_cons pe_non (pa_cons pe_str (pa_cons pe_bl pa_nil))))))))))
    (pss_cons (ps_set (i := 4) scHand.nd rfl (Or.inl rfl) (pe_op op_cat (pv 4) (pe_lst (pa_cons (pe_tup (pa_cons pe_str (pa_cons pe_non (pa_cons (pe_tup pa_nil) pa_nil)))) pa_nil))))
    (pss_cons (ps_set (i := 5) scHand.nd rfl (Or.inl rfl) (pe_op op_cat (pv 5) (pe_lst (pa_cons (pe_lc (own := [("_law_own", 7)]) (g := gName 7) rfl scHand.nd (pi_list (pv 3)) (blkOk_by (own := [("_law_own", 7)]) (N := nHand) (sc := defScope (topS 28)) (by decide +kernel)) (fun _ _ _ _ _ => pg_name (i := 7) scHand.nd rfl (Or.inl rfl)) (fun _ _ _ _ _ => pts_nil) (fun _ _ _ _ _ => pe_has g4.has (hr.mono (by decide)) (pa_cons (pv 7) pa_nil))) (pa_cons (pe_lc (own := [("_law_own", 7)]) (g := gName 7) rfl scHand.nd (pi_list (pv 4)) (blkOk_by (own := [("_law_own", 7)]) (N := nHand) (sc := defScope (topS 28)) (by decide +kernel)) (fun _ _ _ _ _ => pg_name (i := 7) scHand.nd rfl (Or.inl rfl)) (fun _ _ _ _ _ => pts_nil) (fun _ _ _ _ _ => pe_has g4.has (hr.mono (by decide)) (pa_cons (pv 7) pa_nil))) (pa_cons (pe_hasK g1 (hr.mono (by decide)) (pk_cons (pv 0) pk_nil)) pa_nil))))))
    (pss_cons (ps_set (i := 5) scHand.nd rfl (Or.inl rfl) (pe_op op_cat (pv 5) (pe_lst (pa_cons (pe_hasK g2 (hr.mono (by decide)) (pk_cons (pe_tup (pa_cons (pv 0) pa_nil)) pk_nil)) pa_nil))))
    (pss_cons (ps_set (i := 6) scHand.nd rfl (Or.inl rfl) (pe_lst (pa_cons (pe_op op_rep (pe_lst (pa_cons pe_bl pa_nil)) pe_int) (pa_cons (pe_op op_rep (pe_lst (pa_cons pe_bl pa_nil)) pe_int) (pa_cons (pe_op op_rep (pe_lst (pa_cons pe_bl pa_nil)) pe_int) (pa_cons (pe_op op_rep (pe_lst (pa_cons pe_bl pa_nil)) pe_int) (pa_cons (pe_op op_rep (pe_lst (pa_cons pe_bl pa_nil)) pe_int) (pa_cons (pe_op op_rep (pe_lst (pa_cons pe_bl pa_nil)) pe_int) (pa_cons (pe_op op_rep (pe_lst (pa_cons pe_bl pa_nil)) pe_int) pa_nil)))))))))
    (pss_cons (ps_set (i := 6) scHand.nd rfl (Or.inl rfl) (pe_op op_cat (pv 6) (pe_lst (pa_cons (pe_op op_rep (pe_lst (pa_cons pe_bl pa_nil)) pe_int) (pa_cons pe_bl (pa_cons pe_bl pa_nil))))))
    (pss_one (ps_ret (pe_has gS hr (pa_cons (pe_op op_cat (pv 5) (pe_lst (pa_cons (pe_hasK g3 (hr.mono (by decide)) (pk_cons (pe_tup (pa_cons (pe_tup (pa_cons (pv 0) pa_nil)) (pa_cons (pv 1) pa_nil))) pk_nil)) (pa_cons (pe_hasK g4 (hr.mono (by decide)) (pk_cons (pe_tup (pa_cons pe_str (pa_cons (pe_tup pa_nil) (pa_cons (pe_tup pa_nil) pa_nil)))) pk_nil)) pa_nil)))) (pa_cons (pe_op op_cat (pv 6) (pe_lst (pa_cons pe_bl (pa_cons pe_bl pa_nil)))) pa_nil)))))))))))))))))))))))))))), ?_⟩
  have hs : Hs H (start nHand []) [none, none, none, none, none, none, none, none] := ⟨rfl, fun i d e => by
    have : ∀ x ∈ ([none, none, none, none, none, none, none, none] : List (Option PyData)), x = none := by simp
    have := this _ (List.mem_of_getElem? e)
    cases this⟩
  refine gv_step3 (d0 := pD) (d1 := qD) (d2 := rD) hs ?_ fun v0 v1 v2 H1 s1 hs2 => ?_
  · repeat' (first | exact gv_int | exact gv_str | exact gv_bl | exact gv_non | exact gva_nil | exact gv_at hs rfl | exact gv_comp hs rfl (by decide) (by decide +kernel) (by decide) | refine gv_kw ?_ (by decide +kernel) | refine gva_cons vw_id ?_ ?_ | refine gv_tup vw_id ?_ ?_ | refine gv_lst vw_id ?_ ?_ | refine gv_cat ?_ ?_ ?_ | refine gv_rep ?_ ?_ ?_ ?_ | exact Nat.le_of_ble_eq_true rfl | rfl)
  replace hs : Hs H1 _ [some pD, some qD, some rD, none, none, none, none, none] := hs2
  clear hs2
  have sm := s1
  generalize List.set _ _ _ = σ1 at hs ⊢
  refine gv_step (d := .list (fine1)) hs ?_ fun v H2 s2 hs2 => ?_
  · repeat' (first | exact gv_int | exact gv_str | exact gv_bl | exact gv_non | exact gva_nil | exact gv_at hs rfl | exact gv_comp hs rfl (by decide) (by decide +kernel) (by decide) | refine gv_kw ?_ (by decide +kernel) | refine gva_cons vw_id ?_ ?_ | refine gv_tup vw_id ?_ ?_ | refine gv_lst vw_id ?_ ?_ | refine gv_cat ?_ ?_ ?_ | refine gv_rep ?_ ?_ ?_ ?_ | exact Nat.le_of_ble_eq_true rfl | rfl)
  replace hs : Hs H2 _ [some pD, some qD, some rD, some (.list (fine1)), none, none, none, none] := hs2
  clear hs2
  have sm := sm.trans s2
  generalize List.set _ _ _ = σ2 at hs ⊢
  refine gv_step (d := .list (odd1a)) hs ?_ fun v H3 s3 hs2 => ?_
  · repeat' (first | exact gv_int | exact gv_str | exact gv_bl | exact gv_non | exact gva_nil | exact gv_at hs rfl | exact gv_comp hs rfl (by decide) (by decide +kernel) (by decide) | refine gv_kw ?_ (by decide +kernel) | refine gva_cons vw_id ?_ ?_ | refine gv_tup vw_id ?_ ?_ | refine gv_lst vw_id ?_ ?_ | refine gv_cat ?_ ?_ ?_ | refine gv_rep ?_ ?_ ?_ ?_ | exact Nat.le_of_ble_eq_true rfl | rfl)
  replace hs : Hs H3 _ [some pD, some qD, some rD, some (.list (fine1)), some (.list (odd1a)), none, none, none] := hs2
  clear hs2
  have sm := sm.trans s3
  generalize List.set _ _ _ = σ3 at hs ⊢
  refine gv_step (d := .list (odd1a ++ odd1b)) hs ?_ fun v H4 s4 hs2 => ?_
  · repeat' (first | exact gv_int | exact gv_str | exact gv_bl | exact gv_non | exact gva_nil | exact gv_at hs rfl | exact gv_comp hs rfl (by decide) (by decide +kernel) (by decide) | refine gv_kw ?_ (by decide +kernel) | refine gva_cons vw_id ?_ ?_ | refine gv_tup vw_id ?_ ?_ | refine gv_lst vw_id ?_ ?_ | refine gv_cat ?_ ?_ ?_ | refine gv_rep ?_ ?_ ?_ ?_ | exact Nat.le_of_ble_eq_true rfl | rfl)
  replace hs : Hs H4 _ [some pD, some qD, some rD, some (.list (fine1)), some (.list (odd1a ++ odd1b)), none, none, none] := hs2
  clear hs2
  have sm := sm.trans s4
  generalize List.set _ _ _ = σ4 at hs ⊢
  refine gv_step (d := .list (odd1a ++ odd1b ++ odd1c)) hs ?_ fun v H5 s5 hs2 => ?_
  · repeat' (first | exact gv_int | exact gv_str | exact gv_bl | exact gv_non | exact gva_nil | exact gv_at hs rfl | exact gv_comp hs rfl (by decide) (by decide +kernel) (by decide) | refine gv_kw ?_ (by decide +kernel) | refine gva_cons vw_id ?_ ?_ | refine gv_tup vw_id ?_ ?_ | refine gv_lst vw_id ?_ ?_ | refine gv_cat ?_ ?_ ?_ | refine gv_rep ?_ ?_ ?_ ?_ | exact Nat.le_of_ble_eq_true rfl | rfl)
  replace hs : Hs H5 _ [some pD, some qD, some rD, some (.list (fine1)), some (.list (odd1a ++ odd1b ++ odd1c)), none, none, none] := hs2
  clear hs2
  have sm := sm.trans s5
  generalize List.set _ _ _ = σ5 at hs ⊢
  refine gv_step (d := .list ([ans twoD fine1, ans twoD (odd1a ++ odd1b ++ odd1c)])) hs ?_ fun v H6 s6 hs2 => ?_
  · repeat' (first | exact gv_int | exact gv_str | exact gv_bl | exact gv_non | exact gva_nil | exact gv_at hs rfl | exact gv_comp hs rfl (by decide) (by decide +kernel) (by decide) | refine gv_kw ?_ (by decide +kernel) | refine gva_cons vw_id ?_ ?_ | refine gv_tup vw_id ?_ ?_ | refine gv_lst vw_id ?_ ?_ | refine gv_cat ?_ ?_ ?_ | refine gv_rep ?_ ?_ ?_ ?_ | exact Nat.le_of_ble_eq_true rfl | rfl)
  replace hs : Hs H6 _ [some pD, some qD, some rD, some (.list (fine1)), some (.list (odd1a ++ odd1b ++ odd1c)), some (.list ([ans twoD fine1, ans twoD (odd1a ++ odd1b ++ odd1c)])), none, none] := hs2
  clear hs2
  have sm := sm.trans s6
  generalize List.set _ _ _ = σ6 at hs ⊢
  refine gv_step (d := .list (fine2)) hs ?_ fun v H7 s7 hs2 => ?_
  · repeat' (first | exact gv_int | exact gv_str | exact gv_bl | exact gv_non | exact gva_nil | exact gv_at hs rfl | exact gv_comp hs rfl (by decide) (by decide +kernel) (by decide) | refine gv_kw ?_ (by decide +kernel) | refine gva_cons vw_id ?_ ?_ | refine gv_tup vw_id ?_ ?_ | refine gv_lst vw_id ?_ ?_ | refine gv_cat ?_ ?_ ?_ | refine gv_rep ?_ ?_ ?_ ?_ | exact Nat.le_of_ble_eq_true rfl | rfl)
  replace hs : Hs H7 _ [some pD, some qD, some rD, some (.list (fine2)), some (.list (odd1a ++ odd1b ++ odd1c)), some (.list ([ans twoD fine1, ans twoD (odd1a ++ odd1b ++ odd1c)])), none, none] := hs2
  clear hs2
  have sm := sm.trans s7
  generalize List.set _ _ _ = σ7 at hs ⊢
  refine gv_step (d := .list (odd2)) hs ?_ fun v H8 s8 hs2 => ?_
  · repeat' (first | exact gv_int | exact gv_str | exact gv_bl | exact gv_non | exact gva_nil | exact gv_at hs rfl | exact gv_comp hs rfl (by decide) (by decide +kernel) (by decide) | refine gv_kw ?_ (by decide +kernel) | refine gva_cons vw_id ?_ ?_ | refine gv_tup vw_id ?_ ?_ | refine gv_lst vw_id ?_ ?_ | refine gv_cat ?_ ?_ ?_ | refine gv_rep ?_ ?_ ?_ ?_ | exact Nat.le_of_ble_eq_true rfl | rfl)
  replace hs : Hs H8 _ [some pD, some qD, some rD, some (.list (fine2)), some (.list (odd2)), some (.list ([ans twoD fine1, ans twoD (odd1a ++ odd1b ++ odd1c)])), none, none] := hs2
  clear hs2
  have sm := sm.trans s8
  generalize List.set _ _ _ = σ8 at hs ⊢
  refine gv_step (d := .list ([ans twoD fine1, ans twoD (odd1a ++ odd1b ++ odd1c)] ++ [ans twosD fine2, ans twosD odd2])) hs ?_ fun v H9 s9 hs2 => ?_
  · repeat' (first | exact gv_int | exact gv_str | exact gv_bl | exact gv_non | exact gva_nil | exact gv_at hs rfl | exact gv_comp hs rfl (by decide) (by decide +kernel) (by decide) | refine gv_kw ?_ (by decide +kernel) | refine gva_cons vw_id ?_ ?_ | refine gv_tup vw_id ?_ ?_ | refine gv_lst vw_id ?_ ?_ | refine gv_cat ?_ ?_ ?_ | refine gv_rep ?_ ?_ ?_ ?_ | exact Nat.le_of_ble_eq_true rfl | rfl)
  replace hs : Hs H9 _ [some pD, some qD, some rD, some (.list (fine2)), some (.list (odd2)), some (.list ([ans twoD fine1, ans twoD (odd1a ++ odd1b ++ odd1c)] ++ [ans twosD fine2, ans twosD odd2])), none, none] := hs2
  clear hs2
  have sm := sm.trans s9
  generalize List.set _ _ _ = σ9 at hs ⊢
  refine gv_step (d := .list (fine3)) hs ?_ fun v H10 s10 hs2 => ?_
  · repeat' (first | exact gv_int | exact gv_str | exact gv_bl | exact gv_non | exact gva_nil | exact gv_at hs rfl | exact gv_comp hs rfl (by decide) (by decide +kernel) (by decide) | refine gv_kw ?_ (by decide +kernel) | refine gva_cons vw_id ?_ ?_ | refine gv_tup vw_id ?_ ?_ | refine gv_lst vw_id ?_ ?_ | refine gv_cat ?_ ?_ ?_ | refine gv_rep ?_ ?_ ?_ ?_ | exact Nat.le_of_ble_eq_true rfl | rfl)
  replace hs : Hs H10 _ [some pD, some qD, some rD, some (.list (fine3)), some (.list (odd2)), some (.list ([ans twoD fine1, ans twoD (odd1a ++ odd1b ++ odd1c)] ++ [ans twosD fine2, ans twosD odd2])), none, none] := hs2
  clear hs2
  have sm := sm.trans s10
  generalize List.set _ _ _ = σ10 at hs ⊢
  refine gv_step (d := .list (odd3a)) hs ?_ fun v H11 s11 hs2 => ?_
  · repeat' (first | exact gv_int | exact gv_str | exact gv_bl | exact gv_non | exact gva_nil | exact gv_at hs rfl | exact gv_comp hs rfl (by decide) (by decide +kernel) (by decide) | refine gv_kw ?_ (by decide +kernel) | refine gva_cons vw_id ?_ ?_ | refine gv_tup vw_id ?_ ?_ | refine gv_lst vw_id ?_ ?_ | refine gv_cat ?_ ?_ ?_ | refine gv_rep ?_ ?_ ?_ ?_ | exact Nat.le_of_ble_eq_true rfl | rfl)
  replace hs : Hs H11 _ [some pD, some qD, some rD, some (.list (fine3)), some (.list (odd3a)), some (.list ([ans twoD fine1, ans twoD (odd1a ++ odd1b ++ odd1c)] ++ [ans twosD fine2, ans twosD odd2])), none, none] := hs2
  clear hs2
  have sm := sm.trans s11
  generalize List.set _ _ _ = σ11 at hs ⊢
  refine gv_step (d := .list (odd3a ++ odd3b)) hs ?_ fun v H12 s12 hs2 => ?_
  · repeat' (first | exact gv_int | exact gv_str | exact gv_bl | exact gv_non | exact gva_nil | exact gv_at hs rfl | exact gv_comp hs rfl (by decide) (by decide +kernel) (by decide) | refine gv_kw ?_ (by decide +kernel) | refine gva_cons vw_id ?_ ?_ | refine gv_tup vw_id ?_ ?_ | refine gv_lst vw_id ?_ ?_ | refine gv_cat ?_ ?_ ?_ | refine gv_rep ?_ ?_ ?_ ?_ | exact Nat.le_of_ble_eq_true rfl | rfl)
  replace hs : Hs H12 _ [some pD, some qD, some rD, some (.list (fine3)), some (.list (odd3a ++ odd3b)), some (.list ([ans twoD fine1, ans twoD (odd1a ++ odd1b ++ odd1c)] ++ [ans twosD fine2, ans twosD odd2])), none, none] := hs2
  clear hs2
  have sm := sm.trans s12
  generalize List.set _ _ _ = σ12 at hs ⊢
  refine gv_step (d := .list (odd3a ++ odd3b ++ odd3c)) hs ?_ fun v H13 s13 hs2 => ?_
  · repeat' (first | exact gv_int | exact gv_str | exact gv_bl | exact gv_non | exact gva_nil | exact gv_at hs rfl | exact gv_comp hs rfl (by decide) (by decide +kernel) (by decide) | refine gv_kw ?_ (by decide +kernel) | refine gva_cons vw_id ?_ ?_ | refine gv_tup vw_id ?_ ?_ | refine gv_lst vw_id ?_ ?_ | refine gv_cat ?_ ?_ ?_ | refine gv_rep ?_ ?_ ?_ ?_ | exact Nat.le_of_ble_eq_true rfl | rfl)
  replace hs : Hs H13 _ [some pD, some qD, some rD, some (.list (fine3)), some (.list (odd3a ++ odd3b ++ odd3c)), some (.list ([ans twoD fine1, ans twoD (odd1a ++ odd1b ++ odd1c)] ++ [ans twosD fine2, ans twosD odd2])), none, none] := hs2
  clear hs2
  have sm := sm.trans s13
  generalize List.set _ _ _ = σ13 at hs ⊢
  refine gv_step (d := .list ([ans twoD fine1, ans twoD (odd1a ++ odd1b ++ odd1c)] ++ [ans twosD fine2, ans twosD odd2] ++ [ans lawD fine3, ans lawD (odd3a ++ odd3b ++ odd3c)])) hs ?_ fun v H14 s14 hs2 => ?_
  · repeat' (first | exact gv_int | exact gv_str | exact gv_bl | exact gv_non | exact gva_nil | exact gv_at hs rfl | exact gv_comp hs rfl (by decide) (by decide +kernel) (by decide) | refine gv_kw ?_ (by decide +kernel) | refine gva_cons vw_id ?_ ?_ | refine gv_tup vw_id ?_ ?_ | refine gv_lst vw_id ?_ ?_ | refine gv_cat ?_ ?_ ?_ | refine gv_rep ?_ ?_ ?_ ?_ | exact Nat.le_of_ble_eq_true rfl | rfl)
  replace hs : Hs H14 _ [some pD, some qD, some rD, some (.list (fine3)), some (.list (odd3a ++ odd3b ++ odd3c)), some (.list ([ans twoD fine1, ans twoD (odd1a ++ odd1b ++ odd1c)] ++ [ans twosD fine2, ans twosD odd2] ++ [ans lawD fine3, ans lawD (odd3a ++ odd3b ++ odd3c)])), none, none] := hs2
  clear hs2
  have sm := sm.trans s14
  generalize List.set _ _ _ = σ14 at hs ⊢
  refine gv_step (d := .list (fine4)) hs ?_ fun v H15 s15 hs2 => ?_
  · repeat' (first | exact gv_int | exact gv_str | exact gv_bl | exact gv_non | exact gva_nil | exact gv_at hs rfl | exact gv_comp hs rfl (by decide) (by decide +kernel) (by decide) | refine gv_kw ?_ (by decide +kernel) | refine gva_cons vw_id ?_ ?_ | refine gv_tup vw_id ?_ ?_ | refine gv_lst vw_id ?_ ?_ | refine gv_cat ?_ ?_ ?_ | refine gv_rep ?_ ?_ ?_ ?_ | exact Nat.le_of_ble_eq_true rfl | rfl)
  replace hs : Hs H15 _ [some pD, some qD, some rD, some (.list (fine4)), some (.list (odd3a ++ odd3b ++ odd3c)), some (.list ([ans twoD fine1, ans twoD (odd1a ++ odd1b ++ odd1c)] ++ [ans twosD fine2, ans twosD odd2] ++ [ans lawD fine3, ans lawD (odd3a ++ odd3b ++ odd3c)])), none, none] := hs2
  clear hs2
  have sm := sm.trans s15
  generalize List.set _ _ _ = σ15 at hs ⊢
  refine gv_step (d := .list (odd4a)) hs ?_ fun v H16 s16 hs2 => ?_
  · repeat' (first | exact gv_int | exact gv_str | exact gv_bl | exact gv_non | exact gva_nil | exact gv_at hs rfl | exact gv_comp hs rfl (by decide) (by decide +kernel) (by decide) | refine gv_kw ?_ (by decide +kernel) | refine gva_cons vw_id ?_ ?_ | refine gv_tup vw_id ?_ ?_ | refine gv_lst vw_id ?_ ?_ | refine gv_cat ?_ ?_ ?_ | refine gv_rep ?_ ?_ ?_ ?_ | exact Nat.le_of_ble_eq_true rfl | rfl)
  replace hs : Hs H16 _ [some pD, some qD, some rD, some (.list (fine4)), some (.list (odd4a)), some (.list ([ans twoD fine1, ans twoD (odd1a ++ odd1b ++ odd1c)] ++ [ans twosD fine2, ans twosD odd2] ++ [ans lawD fine3, ans lawD (odd3a ++ odd3b ++ odd3c)])), none, none] := hs2
  clear hs2
  have sm := sm.trans s16
  generalize List.set _ _ _ = σ16 at hs ⊢
  refine gv_step (d := .list (odd4a ++ odd4b)) hs ?_ fun v H17 s17 hs2 => ?_
  · repeat' (first | exact gv_int | exact gv_str | exact gv_bl | exact gv_non | exact gva_nil | exact gv_at hs rfl | exact gv_comp hs rfl (by decide) (by decide +kernel) (by decide) | refine gv_kw ?_ (by decide +kernel) | refine gva_cons vw_id ?_ ?_ | refine gv_tup vw_id ?_ ?_ | refine gv_lst vw_id ?_ ?_ | refine gv_cat ?_ ?_ ?_ | refine gv_rep ?_ ?_ ?_ ?_ | exact Nat.le_of_ble_eq_true rfl | rfl)
  replace hs : Hs H17 _ [some pD, some qD, some rD, some (.list (fine4)), some (.list (odd4a ++ odd4b)), some (.list ([ans twoD fine1, ans twoD (odd1a ++ odd1b ++ odd1c)] ++ [ans twosD fine2, ans twosD odd2] ++ [ans lawD fine3, ans lawD (odd3a ++ odd3b ++ odd3c)])), none, none] := hs2
  clear hs2
  have sm := sm.trans s17
  generalize List.set _ _ _ = σ17 at hs ⊢
  refine gv_step (d := .list (odd4a ++ odd4b ++ odd4c)) hs ?_ fun v H18 s18 hs2 => ?_
  · repeat' (first | exact gv_int | exact gv_str | exact gv_bl | exact gv_non | exact gva_nil | exact gv_at hs rfl | exact gv_comp hs rfl (by decide) (by decide +kernel) (by decide) | refine gv_kw ?_ (by decide +kernel) | refine gva_cons vw_id ?_ ?_ | refine gv_tup vw_id ?_ ?_ | refine gv_lst vw_id ?_ ?_ | refine gv_cat ?_ ?_ ?_ | refine gv_rep ?_ ?_ ?_ ?_ | exact Nat.le_of_ble_eq_true rfl | rfl)
  replace hs : Hs H18 _ [some pD, some qD, some rD, some (.list (fine4)), some (.list (odd4a ++ odd4b ++ odd4c)), some (.list ([ans twoD fine1, ans twoD (odd1a ++ odd1b ++ odd1c)] ++ [ans twosD fine2, ans twosD odd2] ++ [ans lawD fine3, ans lawD (odd3a ++ odd3b ++ odd3c)])), none, none] := hs2
  clear hs2
  have sm := sm.trans s18
  generalize List.set _ _ _ = σ18 at hs ⊢
  refine gv_step (d := .list (odd4a ++ odd4b ++ odd4c ++ odd4d)) hs ?_ fun v H19 s19 hs2 => ?_
  · repeat' (first | exact gv_int | exact gv_str | exact gv_bl | exact gv_non | exact gva_nil | exact gv_at hs rfl | exact gv_comp hs rfl (by decide) (by decide +kernel) (by decide) | refine gv_kw ?_ (by decide +kernel) | refine gva_cons vw_id ?_ ?_ | refine gv_tup vw_id ?_ ?_ | refine gv_lst vw_id ?_ ?_ | refine gv_cat ?_ ?_ ?_ | refine gv_rep ?_ ?_ ?_ ?_ | exact Nat.le_of_ble_eq_true rfl | rfl)
  replace hs : Hs H19 _ [some pD, some qD, some rD, some (.list (fine4)), some (.list (odd4a ++ odd4b ++ odd4c ++ odd4d)), some (.list ([ans twoD fine1, ans twoD (odd1a ++ odd1b ++ odd1c)] ++ [ans twosD fine2, ans twosD odd2] ++ [ans lawD fine3, ans lawD (odd3a ++ odd3b ++ odd3c)])), none, none] := hs2
  clear hs2
  have sm := sm.trans s19
  generalize List.set _ _ _ = σ19 at hs ⊢
  refine gv_step (d := .list ([ans twoD fine1, ans twoD (odd1a ++ odd1b ++ odd1c)] ++ [ans twosD fine2, ans twosD odd2] ++ [ans lawD fine3, ans lawD (odd3a ++ odd3b ++ odd3c)] ++ [ans tideD fine4, ans tideD (odd4a ++ odd4b ++ odd4c ++ odd4d), .bool (twoD pD)])) hs ?_ fun v H20 s20 hs2 => ?_
  · repeat' (first | exact gv_int | exact gv_str | exact gv_bl | exact gv_non | exact gva_nil | exact gv_at hs rfl | exact gv_comp hs rfl (by decide) (by decide +kernel) (by decide) | refine gv_kw ?_ (by decide +kernel) | refine gva_cons vw_id ?_ ?_ | refine gv_tup vw_id ?_ ?_ | refine gv_lst vw_id ?_ ?_ | refine gv_cat ?_ ?_ ?_ | refine gv_rep ?_ ?_ ?_ ?_ | exact Nat.le_of_ble_eq_true rfl | rfl)
  replace hs : Hs H20 _ [some pD, some qD, some rD, some (.list (fine4)), some (.list (odd4a ++ odd4b ++ odd4c ++ odd4d)), some (.list ([ans twoD fine1, ans twoD (odd1a ++ odd1b ++ odd1c)] ++ [ans twosD fine2, ans twosD odd2] ++ [ans lawD fine3, ans lawD (odd3a ++ odd3b ++ odd3c)] ++ [ans tideD fine4, ans tideD (odd4a ++ odd4b ++ odd4c ++ odd4d), .bool (twoD pD)])), none, none] := hs2
  clear hs2
  have sm := sm.trans s20
  generalize List.set _ _ _ = σ20 at hs ⊢
  refine gv_step (d := .list ([ans twoD fine1, ans twoD (odd1a ++ odd1b ++ odd1c)] ++ [ans twosD fine2, ans twosD odd2] ++ [ans lawD fine3, ans lawD (odd3a ++ odd3b ++ odd3c)] ++ [ans tideD fine4, ans tideD (odd4a ++ odd4b ++ odd4c ++ odd4d), .bool (twoD pD)] ++ [.bool (twosD (.tuple [pD]))])) hs ?_ fun v H21 s21 hs2 => ?_
  · repeat' (first | exact gv_int | exact gv_str | exact gv_bl | exact gv_non | exact gva_nil | exact gv_at hs rfl | exact gv_comp hs rfl (by decide) (by decide +kernel) (by decide) | refine gv_kw ?_ (by decide +kernel) | refine gva_cons vw_id ?_ ?_ | refine gv_tup vw_id ?_ ?_ | refine gv_lst vw_id ?_ ?_ | refine gv_cat ?_ ?_ ?_ | refine gv_rep ?_ ?_ ?_ ?_ | exact Nat.le_of_ble_eq_true rfl | rfl)
  replace hs : Hs H21 _ [some pD, some qD, some rD, some (.list (fine4)), some (.list (odd4a ++ odd4b ++ odd4c ++ odd4d)), some (.list ([ans twoD fine1, ans twoD (odd1a ++ odd1b ++ odd1c)] ++ [ans twosD fine2, ans twosD odd2] ++ [ans lawD fine3, ans lawD (odd3a ++ odd3b ++ odd3c)] ++ [ans tideD fine4, ans tideD (odd4a ++ odd4b ++ odd4c ++ odd4d), .bool (twoD pD)] ++ [.bool (twosD (.tuple [pD]))])), none, none] := hs2
  clear hs2
  have sm := sm.trans s21
  generalize List.set _ _ _ = σ21 at hs ⊢
  refine gv_step (d := .list ([.list (List.replicate 4 [PyData.bool true]).flatten, .list (List.replicate 20 [PyData.bool false]).flatten, .list (List.replicate 5 [PyData.bool true]).flatten, .list (List.replicate 13 [PyData.bool false]).flatten, .list (List.replicate 3 [PyData.bool true]).flatten, .list (List.replicate 20 [PyData.bool false]).flatten, .list (List.replicate 4 [PyData.bool true]).flatten])) hs ?_ fun v H22 s22 hs2 => ?_
  · repeat' (first | exact gv_int | exact gv_str | exact gv_bl | exact gv_non | exact gva_nil | exact gv_at hs rfl | exact gv_comp hs rfl (by decide) (by decide +kernel) (by decide) | refine gv_kw ?_ (by decide +kernel) | refine gva_cons vw_id ?_ ?_ | refine gv_tup vw_id ?_ ?_ | refine gv_lst vw_id ?_ ?_ | refine gv_cat ?_ ?_ ?_ | refine gv_rep ?_ ?_ ?_ ?_ | exact Nat.le_of_ble_eq_true rfl | rfl)
  replace hs : Hs H22 _ [some pD, some qD, some rD, some (.list (fine4)), some (.list (odd4a ++ odd4b ++ odd4c ++ odd4d)), some (.list ([ans twoD fine1, ans twoD (odd1a ++ odd1b ++ odd1c)] ++ [ans twosD fine2, ans twosD odd2] ++ [ans lawD fine3, ans lawD (odd3a ++ odd3b ++ odd3c)] ++ [ans tideD fine4, ans tideD (odd4a ++ odd4b ++ odd4c ++ odd4d), .bool (twoD pD)] ++ [.bool (twosD (.tuple [pD]))])), some (.list ([.list (List.replicate 4 [PyData.bool true]).flatten, .list (List.replicate 20 [PyData.bool false]).flatten, .list (List.replicate 5 [PyData.bool true]).flatten, .list (List.replicate 13 [PyData.bool false]).flatten, .list (List.replicate 3 [PyData.bool true]).flatten, .list (List.replicate 20 [PyData.bool false]).flatten, .list (List.replicate 4 [PyData.bool true]).flatten])), none] := hs2
  clear hs2
  have sm := sm.trans s22
  generalize List.set _ _ _ = σ22 at hs ⊢
  refine gv_step (d := .list ([.list (List.replicate 4 [PyData.bool true]).flatten, .list (List.replicate 20 [PyData.bool false]).flatten, .list (List.replicate 5 [PyData.bool true]).flatten, .list (List.replicate 13 [PyData.bool false]).flatten, .list (List.replicate 3 [PyData.bool true]).flatten, .list (List.replicate 20 [PyData.bool false]).flatten, .list (List.replicate 4 [PyData.bool true]).flatten] ++ [.list (List.replicate 16 [PyData.bool false]).flatten, .bool true, .bool true])) hs ?_ fun v H23 s23 hs2 => ?_
  · repeat' (first | exact gv_int | exact gv_str | exact gv_bl | exact gv_non | exact gva_nil | exact gv_at hs rfl | exact gv_comp hs rfl (by decide) (by decide +kernel) (by decide) | refine gv_kw ?_ (by decide +kernel) | refine gva_cons vw_id ?_ ?_ | refine gv_tup vw_id ?_ ?_ | refine gv_lst vw_id ?_ ?_ | refine gv_cat ?_ ?_ ?_ | refine gv_rep ?_ ?_ ?_ ?_ | exact Nat.le_of_ble_eq_true rfl | rfl)
  replace hs : Hs H23 _ [some pD, some qD, some rD, some (.list (fine4)), some (.list (odd4a ++ odd4b ++ odd4c ++ odd4d)), some (.list ([ans twoD fine1, ans twoD (odd1a ++ odd1b ++ odd1c)] ++ [ans twosD fine2, ans twosD odd2] ++ [ans lawD fine3, ans lawD (odd3a ++ odd3b ++ odd3c)] ++ [ans tideD fine4, ans tideD (odd4a ++ odd4b ++ odd4c ++ odd4d), .bool (twoD pD)] ++ [.bool (twosD (.tuple [pD]))])), some (.list ([.list (List.replicate 4 [PyData.bool true]).flatten, .list (List.replicate 20 [PyData.bool false]).flatten, .list (List.replicate 5 [PyData.bool true]).flatten, .list (List.replicate 13 [PyData.bool false]).flatten, .list (List.replicate 3 [PyData.bool true]).flatten, .list (List.replicate 20 [PyData.bool false]).flatten, .list (List.replicate 4 [PyData.bool true]).flatten] ++ [.list (List.replicate 16 [PyData.bool false]).flatten, .bool true, .bool true])), none] := hs2
  clear hs2
  have sm := sm.trans s23
  generalize List.set _ _ _ = σ23 at hs ⊢
  refine gv_ret (es := [.list ([ans twoD fine1, ans twoD (odd1a ++ odd1b ++ odd1c)] ++ [ans twosD fine2, ans twosD odd2] ++ [ans lawD fine3, ans lawD (odd3a ++ odd3b ++ odd3c)] ++ [ans tideD fine4, ans tideD (odd4a ++ odd4b ++ odd4c ++ odd4d), .bool (twoD pD)] ++ [.bool (twosD (.tuple [pD]))] ++ [.bool (lawD (t2 (.tuple [pD]) qD)), .bool (tideD (t3 (.str "x") (.tuple []) (.tuple [])))]), .list ([.list (List.replicate 4 [PyData.bool true]).flatten, .list (List.replicate 20 [PyData.bool false]).flatten, .list (List.replicate 5 [PyData.bool true]).flatten, .list (List.replicate 13 [PyData.bool false]).flatten, .list (List.replicate 3 [PyData.bool true]).flatten, .list (List.replicate 20 [PyData.bool false]).flatten, .list (List.replicate 4 [PyData.bool true]).flatten] ++ [.list (List.replicate 16 [PyData.bool false]).flatten, .bool true, .bool true] ++ [.bool true, .bool true])]) ?_ fun vs H' s' hd => ?_
  · repeat' (first | exact gv_int | exact gv_str | exact gv_bl | exact gv_non | exact gva_nil | exact gv_at hs rfl | exact gv_comp hs rfl (by decide) (by decide +kernel) (by decide) | refine gv_kw ?_ (by decide +kernel) | refine gva_cons vw_id ?_ ?_ | refine gv_tup vw_id ?_ ?_ | refine gv_lst vw_id ?_ ?_ | refine gv_cat ?_ ?_ ?_ | refine gv_rep ?_ ?_ ?_ ?_ | exact Nat.le_of_ble_eq_true rfl | rfl)
  rw [a_fine1, a_odd1, a_fine2, a_odd2, a_fine3, a_odd3, a_fine4, a_odd4, k_two, k_twos, k_law, k_tide] at hd
  cases hd with
  | @cons v1 _ _ _ h1 t1 =>
    cases t1 with
    | @cons v2 _ _ _ h2 t2 =>
      cases t2
      exact ⟨v1, v2, _, 3, rfl, h1, h2, by decide +kernel, by decide, fun H2 s2 => q H2 (sm.trans (s'.trans s2))⟩
end
end Lf

set_option maxHeartbeats 4000000
namespace Lf
open PySem PySem.Spec PyProof.Rows L2

section
variable {X : Cx} {k : Nat} {x : Str} {sp : Sp} {p pos : Pos}
theorem pe_has0 (G : Has X.prog X.w X.K X.mg X.base k x [] sp) (hr : Room k X.A) (hg : Gl X x := by rfl) (hdb : (x == ("__debug__" : Str)) = false := by decide) : PE X (.Call (.Name x p) [] [] pos) (tCall sp [] E0 tNil) := by
  obtain ⟨f, fd, ok, m, kp, b⟩ := G.ex
  exact pe_call0 ok hr hg m kp b .nil pass0 hdb
end
def spRight : Sp := fun vs H Q _ => ∃ u : Addr, vs = [.ref u] ∧ Urn 100000 u H ∧ ∀ H', Kept u H H' → Q (.bl true) H'
section
variable {P : Program} {w : World} {K : PySem.W.Frag} {mg : Str → Option Value} {base : Heap} {f : Addr} {fd : FuncData}
theorem scRight : FnScope ["_law_urn", "_law_tags_here", "_law_turn", "_law_some_here", "_law_own"] ["_law_urn"] (defScope (topS 29)) := ⟨rfl, rfl, rfl, by decide +kernel, rfl, by decide +kernel, by decide +kernel⟩
theorem ok_right (B : Bts mg) (gT : Has P w K mg base 1 "_law_take" ["_law_urn", "_law_low_so"] spTake) (gO : Has P w K mg base 2 "_law_of" ["_law_urn", "_law_some_so"] spOf) (gG : Has P w K mg base 3 "_law_tags" ["_law_urn", "_law_many_so"] spTags)
    (gR : Has P w K mg base 3 "_law_rules" ["_law_urn", "_law_tags_here", "_law_top"] spRules) (gW : Has P w K mg base 4 "_law_waters" ["_law_urn", "_law_tags_here", "_law_top"] spRules) (g2 : Has P w K mg base 2 "_law_twos" ["_law_tags_here"] spTwos)
    (gA : Has P w K mg base 5 "_law_asked" ["_law_bit"] (spD fun _ => true)) (gB : Has P w K mg base 7 "_law_bent" ["_law_urn", "_law_bit", "_law_deep"] (spBent 5)) (F : Fun K "_law_right" "_law_right" (topS 29) f fd) : FnOk P w K mg base CX0 8 f fd ["_law_urn"] spRight := by
  refine F.ok scRight (fun vs H Q E h => ?_) (fun cdv A outer s H vs Q E hr h => ?_)
  · obtain ⟨u, rfl, _⟩ := h
    rfl
  obtain ⟨u, rfl, hu, q⟩ := h
  refine ⟨_, pss_cons (ps_set (i := 1) scRight.nd rfl (Or.inl rfl) (pe_has gG (hr.mono (by decide)) (pa_cons (pv 0) (pa_cons (pe_op op_add pe_int (pe_has gT (hr.mono (by decide)) (pa_cons (pv 0) (pa_cons pe_int pa_nil)))) pa_nil))))
    (pss_cons (ps_for PassesOwn.never rfl (pi_range1 (by rfl) B.range (pa_cons pe_int pa_nil)) (pg_name (i := 2) scRight.nd rfl (Or.inl rfl))
      (pss_cons (ps_set (i := 3) scRight.nd rfl (Or.inl rfl) (pe_op op_cat (pe_op op_cat (pe_has gR (hr.mono (by decide)) (pa_cons (pv 0) (pa_cons (pv 1) (pa_cons pe_int pa_nil)))) (pe_has gW (hr.mono (by decide)) (pa_cons (pv 0) (pa_cons (pv 1) (pa_cons pe_int pa_nil)))))
        (pe_lst (pa_cons (pe_callTy call_tuple_of (by rfl) B.tuple (by decide +kernel) (pa_cons (pe_slice sl_list (pe_has g2 (hr.mono (by decide)) (pa_cons (pv 1) pa_nil)) po_none (po_some pe_int)) pa_nil)) pa_nil))))
      (pss_cons (ps_set (i := 4) scRight.nd rfl (Or.inl rfl) (pe_has gO (hr.mono (by decide)) (pa_cons (pv 0) (pa_cons (pv 3) pa_nil))))
      (pss_one (ps_if (PW.pt (pw_or (pt_not (pt_val (pe_has gA (hr.mono (by decide)) (pa_cons (pv 4) pa_nil)))) (pw_or1 (pt_not (pt_val (pe_has gA (hr.mono (by decide)) (pa_cons (pe_has gB hr (pa_cons (pv 0) (pa_cons (pv 4) (pa_cons pe_int pa_nil)))) pa_nil)))))))
        (pss_one (ps_ret pe_bl)) pss_nil)))))
    (pss_one (ps_ret pe_bl))), ?_⟩
  refine ⟨_, rfl, _, rfl, u, 3, 99999, rfl, hu.le (by decide), by decide, by decide, fun r H1 r0 r3 k1 u1 => ?_⟩
  obtain ⟨rn, rfl⟩ : ∃ rn : Nat, r = (rn : Int) := ⟨r.toNat, by omega⟩
  refine ⟨_, _, rfl, rfl, u, 3 + rn, 90000, ?_, u1.le (by omega), by omega, by omega, fun ts p H2 tg tl k2 u2 => ?_⟩
  · show [V.ref u, V.int (3 + (rn : Int))] = _
    rw [show (3 : Int) + (rn : Int) = ((3 + rn : Nat) : Int) by omega]
  have k02 := k1.trans k2
  refine ⟨15, rfl, by decide, by decide, ?_⟩
  refine for_it (walk_range (lo := 0) (n := (15 : Int).toNat)) (fun i σ H3 => ∃ t2 t3 t4, σ = [some (.ref u), some (.ref p), t2, t3, t4] ∧ Kept u H H3 ∧ Tg u H3 p ts ∧ Urn (2300 * (15 - i)) u H3)
    ⟨none, none, none, rfl, k02, tg, u2.le (by decide)⟩ (fun _ _ _ _ _ => trivial) (fun i x σ H3 H4 hi hP hY => ?_) (fun σ H3 hP => ?_)
  · obtain ⟨rfl, rfl⟩ := hY
    obtain ⟨t2, t3, t4, rfl, k3, tg3, u3⟩ := hP
    have hi15 : i < 15 := hi
    refine ⟨_, rfl, _, rfl, u, p, 1, ts, 2300 * (15 - (i + 1)) + 1200, rfl, u3.le (by omega), tg3, by decide, by decide, fun ys pr H5 hy gy ly k5 u5 => ?_⟩
    have tg5 := tg3.kept k5
    refine ⟨_, rfl, _, rfl, u, p, 1, ts, 2300 * (15 - (i + 1)) + 100, rfl, u5.le (by omega), tg5, by decide, by decide, fun zs pw H6 hz gz lz k6 u6 => ?_⟩
    have tg6 := tg5.kept k6
    have hy6 := k6 _ _ hy
    refine ⟨pr, pw, ys, zs, rfl, rfl, hide_sub _ _ hy6, hide_sub _ _ hz, small (by omega), fun pc npc => ?_⟩
    have s7 := same_new npc (.lst (ys ++ zs))
    have e7 : upd H6 pc (.lst (ys ++ zs)) pc = some (.lst (ys ++ zs)) := upd_same
    generalize upd H6 pc (.lst (ys ++ zs)) = H7 at s7 e7 ⊢
    have tg7 := tg6.kept (hide_mono s7)
    have u7 := u6.same s7
    refine ⟨_, rfl, p, ts, rfl, hide_sub _ _ tg7.at', tg7.lo, tg7.hi, tg7.nd, tg7.ok, fun ws pt H8 s8 ht prs w2 w100 => ?_⟩
    have u8 := u7.same s8
    have prh : ∀ z ∈ ws, Pr (hide u H8) z := fun z hz => (prs z hz).hidden u8
    refine ⟨2, rfl, pt, ws, rfl, .of ht, fun pl npl => ?_⟩
    have s9 := same_new npl (.lst (cutV ws none (some 2)))
    have e9 : upd H8 pl (.lst (cutV ws none (some 2))) pl = some (.lst (cutV ws none (some 2))) := upd_same
    have ecut : cutV ws none (some (2 : Int)) = ws.take 2 := cutV_to ws 2
    generalize upd H8 pl (.lst (cutV ws none (some 2))) = H9 at s9 e9 ⊢
    rw [ecut] at e9
    have u9 := u8.same s9
    refine ⟨pl, _, rfl, .inl ⟨.of e9, fun po npo => ?_⟩⟩
    have s10 := same_new npo (.tup (ws.take 2))
    have hpo : po ≠ u := ne_urn u9 npo
    have e10 : upd H9 po (.tup (ws.take 2)) po = some (.tup (ws.take 2)) := upd_same
    generalize upd H9 po (.tup (ws.take 2)) = H10 at s10 e10 ⊢
    have u10 := u9.same s10
    refine ⟨by show 1 ≤ sizeLine; decide, fun pe npe => ?_⟩
    have s11 := same_new npe (.lst [.ref po])
    have e11 : upd H10 pe (.lst [.ref po]) pe = some (.lst [.ref po]) := upd_same
    generalize upd H10 pe (.lst [.ref po]) = H11 at s11 e11 ⊢
    have u11 := u10.same s11
    have s711 := s8.trans (s9.trans (s10.trans s11))
    refine ⟨pc, pe, ys ++ zs, [.ref po], rfl, rfl, s711 _ _ e7, e11, ?_, fun pf npf => ?_⟩
    · rw [List.length_append]
      show _ + 1 ≤ sizeLine
      exact small (by omega)
    have s12 := same_new npf (.lst (ys ++ zs ++ [.ref po]))
    have hpf : pf ≠ u := ne_urn u11 npf
    have e12 : upd H11 pf (.lst (ys ++ zs ++ [.ref po])) pf = some (.lst (ys ++ zs ++ [.ref po])) := upd_same
    generalize upd H11 pf (.lst (ys ++ zs ++ [.ref po])) = H12 at s12 e12 ⊢
    have u12 := u11.same s12
    have s612 := s7.trans (s711.trans s12)
    have k612 : Kept u H6 H12 := hide_mono s612
    have gd : ∀ v ∈ ys ++ zs ++ [V.ref po], Gd (hide u H12) v := by
      intro v hv
      rcases List.mem_append.mp hv with hv | hv
      · rcases List.mem_append.mp hv with hv | hv
        · exact (gy v hv).mono (k6.trans k612)
        · exact (gz v hv).mono k612
      · have : v = .ref po := by simpa using hv
        subst this
        have sx := s11.trans s12
        obtain ⟨qs, dqs, okqs⟩ := prs_data (H := hide u H12) (xs := ws.take 2) fun y hy => (prh y (List.mem_of_mem_take hy)).mono (hide_mono (s9.trans (s10.trans sx)))
        have l1 := dqs.length
        rw [List.length_map, List.length_take] at l1
        exact ⟨.tuple (qs.map pairD), .tup (hide_in hpo (sx _ _ e10)) dqs, wfT_mono 2 5 _ (by decide) (wfT_pairs okqs (by omega) 0)⟩
    refine ⟨_, rfl, _, rfl, u, pf, _, 2300 * (15 - (i + 1)) + 20, rfl, u12.le (by omega), hide_in hpf e12, by simp, ?_, fun v H13 hv k13 u13 => ?_⟩
    · rw [List.length_append, List.length_append]
      show _ + 1 ≤ 1000
      omega
    obtain ⟨d, hd, hw⟩ := (gd v hv).mono k13
    refine ⟨_, rfl, v, d, 5, rfl, hd.mono hide_sub, wfT_wf 5 d hw, by decide, fun H14 s14 => ?_⟩
    refine ⟨_, rfl, ?_⟩
    refine iteF ?_
    have u14 := u13.same s14
    refine ⟨_, rfl, _, rfl, u, v, 4, d, 5, 2300 * (15 - (i + 1)), rfl, by decide, u14.le (by omega), hd.mono (hide_mono s14), hw, by decide, fun v2 d2 H15 hd2 hw2 k15 u15 => ?_⟩
    refine ⟨v2, d2, 8, rfl, hd2.mono hide_sub, hw2, by decide, fun H16 s16 => ?_⟩
    refine ⟨_, rfl, ?_⟩
    refine iteF ?_
    have k316 : Kept u H4 H16 := (k5.trans (k6.trans k612)).trans (k13.trans ((hide_mono s14).trans (k15.trans (hide_mono s16))))
    exact ⟨_, _, _, rfl, k3.trans k316, tg3.kept k316, u15.same s16⟩
  · obtain ⟨t2, t3, t4, rfl, k3, tg3, u3⟩ := hP
    exact q H3 k3

def spLaw (K : PySem.W.Frag) : Sp := fun vs H Q _ => ∃ (a : Addr) (ns : List Int), vs = [.ref a] ∧ SqL K H a (ns.map V.int) ∧ ns.length ≤ 63 ∧ ∀ H', Q (.bl true) H'
theorem scLaw : FnScope ["_law_script", "_law_cells_here", "_law_k"] ["_law_script"] (defScope (topS 30)) := ⟨rfl, rfl, rfl, by decide +kernel, rfl, by decide +kernel, by decide +kernel⟩
theorem ok_law (B : Bts mg) (gC : Has P w K mg base 1 "_law_cells" ["_law_script", "_law_top"] (spCells K)) (gX : Has P w K mg base 1 "_law_box" ["_law_script", "_law_k"] (spBox K)) (gH : Has P w K mg base 5 "_law_by_hand_right" [] spHand)
    (gR : Has P w K mg base 8 "_law_right" ["_law_urn"] spRight) (F : Fun K "law" "law" (topS 30) f fd) : FnOk P w K mg base CX0 9 f fd ["_law_script"] (spLaw K) := by
  refine F.ok scLaw (fun vs H Q E h => ?_) (fun cdv A outer s H vs Q E hr h => ?_)
  · obtain ⟨a, ns, rfl, _⟩ := h
    rfl
  obtain ⟨a, ns, rfl, hS, hl, q⟩ := h
  refine ⟨_, pss_cons (ps_set (i := 1) scLaw.nd rfl (Or.inr rfl) (pe_has gC (hr.mono (by decide)) (pa_cons (pv 0) (pa_cons pe_int pa_nil))))
    (pss_one (ps_ret (pe_and (pe_has0 gH (hr.mono (by decide))) (pe_one (pe_callB (cr_all rfl) (by rfl) B.all (by decide +kernel) (pa_cons
      (pe_lc (own := [("_law_k", 2)]) (g := gName 2) rfl scLaw.nd (pi_range1 (by rfl) B.range (pa_cons (pe_callB call_len_seq (by rfl) B.len PySem.boot_len (pa_cons (pv 1) pa_nil)) pa_nil))
        (blkOk_by (own := [("_law_k", 2)]) (N := ["_law_script", "_law_cells_here", "_law_k"]) (sc := defScope (topS 30)) (by decide +kernel))
        (fun _ _ _ _ _ => pg_name (i := 2) scLaw.nd rfl (Or.inl rfl)) (fun _ _ _ _ _ => pts_nil)
        (fun _ _ _ _ _ => pe_has gR hr (pa_cons (pe_has gX (hr.mono (by decide)) (pa_cons (pv 1) (pa_cons (pv 2) pa_nil))) pa_nil))) pa_nil)))))), ?_⟩
  refine ⟨_, rfl, a, ns, rfl, hS, hl, fun cs c H1 s1 hc c1 c3 => ?_⟩
  refine ⟨rfl, fun H2 s2 => ?_⟩
  refine ⟨_, rfl, ?_⟩
  refine iteT ?_
  have hc2 := s2 _ _ hc
  refine ⟨_, rfl, _, _, rfl, .inl (.of hc2), _, rfl, by rw [List.length_map]; omega, by rw [List.length_map]; omega, fun D nD => ?_⟩
  rw [List.length_map]
  refine lc_it (walk_range (lo := 0) (n := (cs.length : Int).toNat)) (fun i H3 => Same H2 H3 ∧ H3 D = some (.lst ((List.replicate i true).map V.bl))) ⟨same_new nD _, upd_same⟩ (fun _ _ _ _ => trivial) (fun i x H3 H4 hi hP hY => ?_) (fun H3 hP => ?_)
  · obtain ⟨rfl, rfl⟩ := hY
    obtain ⟨sm, hD⟩ := hP
    refine ⟨rfl, yes ?_⟩
    rw [if_pos rfl]
    refine ⟨_, rfl, _, rfl, c, cs, _, rfl, .of (sm _ _ hc2), by omega, by omega, fun u H5 s5 nu hu => ?_⟩
    refine ⟨u, rfl, hu.le (by decide), fun H6 k6 => ?_⟩
    have s6 : Same H4 H6 := fun b o e => hide_sub _ _ (k6 _ _ (hide_in (ne_of_none e nu) (s5 _ _ e)))
    refine ⟨_, s6 _ _ hD, ?_, same_upd (sm.trans s6) nD _, ?_⟩
    · rw [List.length_map, List.length_replicate]
      exact small1000 (by omega)
    · rw [upd_same, List.replicate_succ', List.map_append]
      rfl
  · obtain ⟨sm, hD⟩ := hP
    refine ⟨D, _, rfl, .of hD, ?_⟩
    rw [show (List.replicate (cs.length : Int).toNat true).all id = true by simp]
    exact q H3
end
end Lf

set_option maxHeartbeats 4000000
namespace Lf
open PySem PySem.Spec PyProof.Rows L2

/-! ## the program's top -/
theorem kbinds_mk {K : PySem.W.Frag} {x : Str} {st : Stmt} {f : Addr} {fd : FuncData} (F : Fun K x x st f fd)
    (h : ∀ (kV doc pm : Value) (an : Option Addr) (cdv ct : Value) (u : Value), bindArgs (PySem.W.fnOf x x (defArgs st) (defBody st) (defScope st) .none kV doc pm an cdv ct) ⟨[u], []⟩ = pure [(("thing" : Str), u)] ∧
      bindArgs (PySem.W.fnOf x x (defArgs st) (defBody st) (defScope st) .none kV doc pm an cdv ct) ⟨[], [(("thing" : Str), u)]⟩ = pure [(("thing" : Str), u)]) :
    KBinds K fd ["thing"] ["thing"] (fun us ws => us ++ ws) (fun vs zs => vs ++ zs) := by
  obtain ⟨oc, od, kV, doc, pm, an, cdv, ct, osl, rfl, lk, hcd⟩ := F.ex
  refine ⟨fun s us ws X hl => ?_, fun r1 r2 => Vals.append r1 r2⟩
  match us, ws, hl with
  | [u], [], _ => exact .of_eq (h kV doc pm an cdv ct u).1
  | [], [u], _ => exact .of_eq (h kV doc pm an cdv ct u).2
/-- a def of the text as the top leaves it -/
def DefAt (K : PySem.W.Frag) (mg : Str → Option Value) (x : Str) (st : Stmt) : Prop := ∃ (f : Addr) (fd : FuncData), Fun K x x st f fd ∧ mg x = some (.ref f)
theorem def_mk {K : PySem.W.Frag} {h : Heap} {mg : Str → Option Value} (X : K.In h) (G : h.Ns mainGlobals mg) {x : Str} {st : Stmt} {f : Addr} {od an : Option Addr} {sl : Array (Option Value)} {oc kV dc pm cd ct : Value}
    (a : PySem.W.nsIn K mainGlobals x = some (some (.ref f))) (l : K.lookup f = some ⟨oc, od, .func (PySem.W.fnOf x x (defArgs st) (defBody st) (defScope st) .none kV dc pm an cd ct), sl⟩) (c : PySem.W.codeIn K cd x = true) (k : PySem.W.keepIn K (.ref f) = true) : DefAt K mg x st :=
  ⟨f, _, fun_mk l c k, PySem.W.mg_of X G a⟩
section
variable {P : Program} {w : World} {K : PySem.W.Frag} {mg : Str → Option Value} {base : Heap}
/-- all that the top leaves keeps its promise -/
theorem all_ok (B : Bts mg) (d1 : DefAt K mg "is_ascending" (topS 1)) (d2 : DefAt K mg "is_name" (topS 2)) (d4 : DefAt K mg "is_pair" (topS 4)) (d5 : DefAt K mg "is_pairs" (topS 5)) (d6 : DefAt K mg "is_rule" (topS 6)) (d7 : DefAt K mg "is_flood" (topS 7)) (d9 : DefAt K mg "_law_box" (topS 9)) (d10 : DefAt K mg "_law_take" (topS 10)) (d11 : DefAt K mg "_law_cells" (topS 11)) (d12 : DefAt K mg "_law_of" (topS 12)) (d13 : DefAt K mg "_law_same" (topS 13)) (d14 : DefAt K mg "_law_mixed" (topS 14)) (d15 : DefAt K mg "_law_tags" (topS 15)) (d16 : DefAt K mg "_law_cross" (topS 16)) (d17 : DefAt K mg "_law_twos" (topS 17)) (d18 : DefAt K mg "_law_some" (topS 18)) (d19 : DefAt K mg "_law_rules" (topS 19)) (d20 : DefAt K mg "_law_waters" (topS 20)) (d21 : DefAt K mg "_law_is_name" (topS 21)) (d22 : DefAt K mg "_law_is_two" (topS 22)) (d23 : DefAt K mg "_law_is_twos" (topS 23)) (d24 : DefAt K mg "_law_is_law" (topS 24)) (d25 : DefAt K mg "_law_is_tide" (topS 25)) (d26 : DefAt K mg "_law_asked" (topS 26)) (d27 : DefAt K mg "_law_bent" (topS 27)) (d28 : DefAt K mg "_law_by_hand_right" (topS 28)) (d29 : DefAt K mg "_law_right" (topS 29)) {f : Addr} {fd : FuncData} (F : Fun K "law" "law" (topS 30) f fd) : FnOk P w K mg base CX0 9 f fd ["_law_script"] (spLaw K) := by
  obtain ⟨f1, fd1, F1, m1⟩ := d1
  have b1 : Binds K fd1 ["values"] [] := F1.binds fun _ _ _ _ _ _ us hl => match us, hl with | [_], _ => rfl
  obtain ⟨f2, fd2, F2, m2⟩ := d2
  have b2 : Binds K fd2 ["thing"] [] := F2.binds fun _ _ _ _ _ _ us hl => match us, hl with | [_], _ => rfl
  obtain ⟨f4, fd4, F4, m4⟩ := d4
  have b4 : Binds K fd4 ["thing"] [] := F4.binds fun _ _ _ _ _ _ us hl => match us, hl with | [_], _ => rfl
  obtain ⟨f5, fd5, F5, m5⟩ := d5
  have b5 : Binds K fd5 ["thing"] [] := F5.binds fun _ _ _ _ _ _ us hl => match us, hl with | [_], _ => rfl
  obtain ⟨f6, fd6, F6, m6⟩ := d6
  have b6 : Binds K fd6 ["thing"] [] := F6.binds fun _ _ _ _ _ _ us hl => match us, hl with | [_], _ => rfl
  obtain ⟨f7, fd7, F7, m7⟩ := d7
  have b7 : Binds K fd7 ["thing"] [] := F7.binds fun _ _ _ _ _ _ us hl => match us, hl with | [_], _ => rfl
  obtain ⟨f9, fd9, F9, m9⟩ := d9
  have b9 : Binds K fd9 ["_law_script", "_law_k"] [] := F9.binds fun _ _ _ _ _ _ us hl => match us, hl with | [_, _], _ => rfl
  obtain ⟨f10, fd10, F10, m10⟩ := d10
  have b10 : Binds K fd10 ["_law_urn", "_law_low_so"] [] := F10.binds fun _ _ _ _ _ _ us hl => match us, hl with | [_, _], _ => rfl
  obtain ⟨f11, fd11, F11, m11⟩ := d11
  have b11 : Binds K fd11 ["_law_script", "_law_top"] [] := F11.binds fun _ _ _ _ _ _ us hl => match us, hl with | [_, _], _ => rfl
  obtain ⟨f12, fd12, F12, m12⟩ := d12
  have b12 : Binds K fd12 ["_law_urn", "_law_some_so"] [] := F12.binds fun _ _ _ _ _ _ us hl => match us, hl with | [_, _], _ => rfl
  obtain ⟨f13, fd13, F13, m13⟩ := d13
  have b13 : Binds K fd13 ["_law_got", "_law_goal"] [] := F13.binds fun _ _ _ _ _ _ us hl => match us, hl with | [_, _], _ => rfl
  obtain ⟨f14, fd14, F14, m14⟩ := d14
  have b14 : Binds K fd14 ["_law_urn", "_law_pool"] [] := F14.binds fun _ _ _ _ _ _ us hl => match us, hl with | [_, _], _ => rfl
  obtain ⟨f15, fd15, F15, m15⟩ := d15
  have b15 : Binds K fd15 ["_law_urn", "_law_many_so"] [] := F15.binds fun _ _ _ _ _ _ us hl => match us, hl with | [_, _], _ => rfl
  obtain ⟨f16, fd16, F16, m16⟩ := d16
  have b16 : Binds K fd16 ["_law_some_so", "_law_more_so"] [] := F16.binds fun _ _ _ _ _ _ us hl => match us, hl with | [_, _], _ => rfl
  obtain ⟨f17, fd17, F17, m17⟩ := d17
  have b17 : Binds K fd17 ["_law_tags_here"] [] := F17.binds fun _ _ _ _ _ _ us hl => match us, hl with | [_], _ => rfl
  obtain ⟨f18, fd18, F18, m18⟩ := d18
  have b18 : Binds K fd18 ["_law_urn", "_law_pool", "_law_top"] [] := F18.binds fun _ _ _ _ _ _ us hl => match us, hl with | [_, _, _], _ => rfl
  obtain ⟨f19, fd19, F19, m19⟩ := d19
  have b19 : Binds K fd19 ["_law_urn", "_law_tags_here", "_law_top"] [] := F19.binds fun _ _ _ _ _ _ us hl => match us, hl with | [_, _, _], _ => rfl
  obtain ⟨f20, fd20, F20, m20⟩ := d20
  have b20 : Binds K fd20 ["_law_urn", "_law_tags_here", "_law_top"] [] := F20.binds fun _ _ _ _ _ _ us hl => match us, hl with | [_, _, _], _ => rfl
  obtain ⟨f21, fd21, F21, m21⟩ := d21
  have b21 : Binds K fd21 ["_law_bit"] [] := F21.binds fun _ _ _ _ _ _ us hl => match us, hl with | [_], _ => rfl
  obtain ⟨f22, fd22, F22, m22⟩ := d22
  have b22 : Binds K fd22 ["_law_bit"] [] := F22.binds fun _ _ _ _ _ _ us hl => match us, hl with | [_], _ => rfl
  obtain ⟨f23, fd23, F23, m23⟩ := d23
  have b23 : Binds K fd23 ["_law_bit"] [] := F23.binds fun _ _ _ _ _ _ us hl => match us, hl with | [_], _ => rfl
  obtain ⟨f24, fd24, F24, m24⟩ := d24
  have b24 : Binds K fd24 ["_law_bit"] [] := F24.binds fun _ _ _ _ _ _ us hl => match us, hl with | [_], _ => rfl
  obtain ⟨f25, fd25, F25, m25⟩ := d25
  have b25 : Binds K fd25 ["_law_bit"] [] := F25.binds fun _ _ _ _ _ _ us hl => match us, hl with | [_], _ => rfl
  obtain ⟨f26, fd26, F26, m26⟩ := d26
  have b26 : Binds K fd26 ["_law_bit"] [] := F26.binds fun _ _ _ _ _ _ us hl => match us, hl with | [_], _ => rfl
  obtain ⟨f27, fd27, F27, m27⟩ := d27
  have b27 : Binds K fd27 ["_law_urn", "_law_bit", "_law_deep"] [] := F27.binds fun _ _ _ _ _ _ us hl => match us, hl with | [_, _, _], _ => rfl
  obtain ⟨f28, fd28, F28, m28⟩ := d28
  have b28 : Binds K fd28 [] [] := F28.binds fun _ _ _ _ _ _ us hl => match us, hl with | [], _ => rfl
  obtain ⟨f29, fd29, F29, m29⟩ := d29
  have b29 : Binds K fd29 ["_law_urn"] [] := F29.binds fun _ _ _ _ _ _ us hl => match us, hl with | [_], _ => rfl
  have g2 : Has P w K mg base 1 "is_name" ["thing"] (spD nameD) := ⟨f2, fd2, ok_name B F2, m2, F2.kp, b2⟩
  have g1 : Has P w K mg base 1 "is_ascending" ["values"] spAsc := ⟨f1, fd1, ok_asc B F1, m1, F1.kp, b1⟩
  have g4 : HasK P w K mg base 2 "is_pair" (spD twoD) := ⟨f4, fd4, ok_pair B g2 F4, m4, F4.kp, b4, kbinds_mk F4 fun _ _ _ _ _ _ _ => ⟨rfl, rfl⟩⟩
  have g5 : HasK P w K mg base 3 "is_pairs" (spD twosD) := ⟨f5, fd5, ok_pairs B g4.has g1 F5, m5, F5.kp, b5, kbinds_mk F5 fun _ _ _ _ _ _ _ => ⟨rfl, rfl⟩⟩
  have g6 : HasK P w K mg base 4 "is_rule" (spD lawD) := ⟨f6, fd6, ok_rule B g4.has g5.has F6, m6, F6.kp, b6, kbinds_mk F6 fun _ _ _ _ _ _ _ => ⟨rfl, rfl⟩⟩
  have g7 : HasK P w K mg base 4 "is_flood" (spD tideD) := ⟨f7, fd7, ok_flood B g2 g5.has F7, m7, F7.kp, b7, kbinds_mk F7 fun _ _ _ _ _ _ _ => ⟨rfl, rfl⟩⟩
  have g21 : Has P w K mg base 1 "_law_is_name" ["_law_bit"] (spD nameD) := ⟨f21, fd21, ok_lname B F21, m21, F21.kp, b21⟩
  have g22 : Has P w K mg base 2 "_law_is_two" ["_law_bit"] (spD twoD) := ⟨f22, fd22, ok_ltwo B g21 F22, m22, F22.kp, b22⟩
  have g23 : Has P w K mg base 3 "_law_is_twos" ["_law_bit"] (spD twosD) := ⟨f23, fd23, ok_ltwos B g22 F23, m23, F23.kp, b23⟩
  have g24 : Has P w K mg base 4 "_law_is_law" ["_law_bit"] (spD lawD) := ⟨f24, fd24, ok_llaw B g22 g23 F24, m24, F24.kp, b24⟩
  have g25 : Has P w K mg base 4 "_law_is_tide" ["_law_bit"] (spD tideD) := ⟨f25, fd25, ok_ltide B g21 g23 F25, m25, F25.kp, b25⟩
  have g13 := has_same (P := P) (w := w) (base := base) B F13 b13 m13 4
  have g26 : Has P w K mg base 5 "_law_asked" ["_law_bit"] (spD fun _ => true) := ⟨f26, fd26, ok_asked B g4.has g5.has g6.has g7.has g22 g23 g24 g25 g13 F26, m26, F26.kp, b26⟩
  have g10 : Has P w K mg base 1 "_law_take" ["_law_urn", "_law_low_so"] spTake := ⟨f10, fd10, ok_take B F10, m10, F10.kp, b10⟩
  have g12 : Has P w K mg base 2 "_law_of" ["_law_urn", "_law_some_so"] spOf := ⟨f12, fd12, ok_of B g10 F12, m12, F12.kp, b12⟩
  have g14 : Has P w K mg base 2 "_law_mixed" ["_law_urn", "_law_pool"] spMixed := ⟨f14, fd14, ok_mixed B g10 F14, m14, F14.kp, b14⟩
  have g18 : Has P w K mg base 3 "_law_some" ["_law_urn", "_law_pool", "_law_top"] spSome := ⟨f18, fd18, ok_some B g10 g14 F18, m18, F18.kp, b18⟩
  have g16 : Has P w K mg base 1 "_law_cross" ["_law_some_so", "_law_more_so"] spCross := ⟨f16, fd16, ok_cross B F16, m16, F16.kp, b16⟩
  have g17 : Has P w K mg base 2 "_law_twos" ["_law_tags_here"] spTwos := ⟨f17, fd17, ok_twos B g16 F17, m17, F17.kp, b17⟩
  have g19 : Has P w K mg base 3 "_law_rules" ["_law_urn", "_law_tags_here", "_law_top"] spRules := ⟨f19, fd19, ok_rules B g10 g14 g17 F19, m19, F19.kp, b19⟩
  have g20 : Has P w K mg base 4 "_law_waters" ["_law_urn", "_law_tags_here", "_law_top"] spRules := ⟨f20, fd20, ok_waters B g10 g14 g17 g18 F20, m20, F20.kp, b20⟩
  have g15 : Has P w K mg base 3 "_law_tags" ["_law_urn", "_law_many_so"] spTags := ⟨f15, fd15, ok_tags B g10 g12 F15, m15, F15.kp, b15⟩
  have g9 : Has P w K mg base 1 "_law_box" ["_law_script", "_law_k"] (spBox K) := ⟨f9, fd9, ok_box B F9, m9, F9.kp, b9⟩
  have g11 : Has P w K mg base 1 "_law_cells" ["_law_script", "_law_top"] (spCells K) := ⟨f11, fd11, ok_cells B F11, m11, F11.kp, b11⟩
  have g27 := has_bent (P := P) (w := w) (base := base) B g10 g12 F27 b27 m27 5
  have g28 : Has P w K mg base 5 "_law_by_hand_right" [] spHand := ⟨f28, fd28, ok_hand B g4 g5 g6 g7 g13 F28, m28, F28.kp, b28⟩
  have g29 : Has P w K mg base 8 "_law_right" ["_law_urn"] spRight := ⟨f29, fd29, ok_right B g10 g12 g15 g19 g20 g17 g26 g27 F29, m29, F29.kp, b29⟩
  exact ok_law B g11 g9 g28 g29 F
end
theorem all_mk {l : PySem.W.OpenLaw} {w : World} {K : PySem.W.Frag} {h : Heap} {mg : Str → Option Value} {fa : Addr} (X : K.In h) (G : h.Ns mainGlobals mg) (hfa : mg "law" = some (.ref fa))
    {f1 f2 f4 f5 f6 f7 f9 f10 f11 f12 f13 f14 f15 f16 f17 f18 f19 f20 f21 f22 f23 f24 f25 f26 f27 f28 f29 f30 : Addr} {od1 an1 od2 an2 od4 an4 od5 an5 od6 an6 od7 an7 od9 an9 od10 an10 od11 an11 od12 an12 od13 an13 od14 an14 od15 an15 od16 an16 od17 an17 od18 an18 od19 an19 od20 an20 od21 an21 od22 an22 od23 an23 od24 an24 od25 an25 od26 an26 od27 an27 od28 an28 od29 an29 od30 an30 : Option Addr} {sl1 sl2 sl4 sl5 sl6 sl7 sl9 sl10 sl11 sl12 sl13 sl14 sl15 sl16 sl17 sl18 sl19 sl20 sl21 sl22 sl23 sl24 sl25 sl26 sl27 sl28 sl29 sl30 : Array (Option Value)} {oc1 kV1 dc1 pm1 cd1 ct1 oc2 kV2 dc2 pm2 cd2 ct2 oc4 kV4 dc4 pm4 cd4 ct4 oc5 kV5 dc5 pm5 cd5 ct5 oc6 kV6 dc6 pm6 cd6 ct6 oc7 kV7 dc7 pm7 cd7 ct7 oc9 kV9 dc9 pm9 cd9 ct9 oc10 kV10 dc10 pm10 cd10 ct10 oc11 kV11 dc11 pm11 cd11 ct11 oc12 kV12 dc12 pm12 cd12 ct12 oc13 kV13 dc13 pm13 cd13 ct13 oc14 kV14 dc14 pm14 cd14 ct14 oc15 kV15 dc15 pm15 cd15 ct15 oc16 kV16 dc16 pm16 cd16 ct16 oc17 kV17 dc17 pm17 cd17 ct17 oc18 kV18 dc18 pm18 cd18 ct18 oc19 kV19 dc19 pm19 cd19 ct19 oc20 kV20 dc20 pm20 cd20 ct20 oc21 kV21 dc21 pm21 cd21 ct21 oc22 kV22 dc22 pm22 cd22 ct22 oc23 kV23 dc23 pm23 cd23 ct23 oc24 kV24 dc24 pm24 cd24 ct24 oc25 kV25 dc25 pm25 cd25 ct25 oc26 kV26 dc26 pm26 cd26 ct26 oc27 kV27 dc27 pm27 cd27 ct27 oc28 kV28 dc28 pm28 cd28 ct28 oc29 kV29 dc29 pm29 cd29 ct29 oc30 kV30 dc30 pm30 cd30 ct30 : Value}
    (a1 : PySem.W.nsIn K mainGlobals "is_ascending" = some (some (.ref f1))) (l1 : K.lookup f1 = some ⟨oc1, od1, .func (PySem.W.fnOf "is_ascending" "is_ascending" (defArgs (topS 1)) (defBody (topS 1)) (defScope (topS 1)) .none kV1 dc1 pm1 an1 cd1 ct1), sl1⟩) (c1 : PySem.W.codeIn K cd1 "is_ascending" = true) (k1 : PySem.W.keepIn K (.ref f1) = true)
    (a2 : PySem.W.nsIn K mainGlobals "is_name" = some (some (.ref f2))) (l2 : K.lookup f2 = some ⟨oc2, od2, .func (PySem.W.fnOf "is_name" "is_name" (defArgs (topS 2)) (defBody (topS 2)) (defScope (topS 2)) .none kV2 dc2 pm2 an2 cd2 ct2), sl2⟩) (c2 : PySem.W.codeIn K cd2 "is_name" = true) (k2 : PySem.W.keepIn K (.ref f2) = true)
    (a4 : PySem.W.nsIn K mainGlobals "is_pair" = some (some (.ref f4))) (l4 : K.lookup f4 = some ⟨oc4, od4, .func (PySem.W.fnOf "is_pair" "is_pair" (defArgs (topS 4)) (defBody (topS 4)) (defScope (topS 4)) .none kV4 dc4 pm4 an4 cd4 ct4), sl4⟩) (c4 : PySem.W.codeIn K cd4 "is_pair" = true) (k4 : PySem.W.keepIn K (.ref f4) = true)
    (a5 : PySem.W.nsIn K mainGlobals "is_pairs" = some (some (.ref f5))) (l5 : K.lookup f5 = some ⟨oc5, od5, .func (PySem.W.fnOf "is_pairs" "is_pairs" (defArgs (topS 5)) (defBody (topS 5)) (defScope (topS 5)) .none kV5 dc5 pm5 an5 cd5 ct5), sl5⟩) (c5 : PySem.W.codeIn K cd5 "is_pairs" = true) (k5 : PySem.W.keepIn K (.ref f5) = true)
    (a6 : PySem.W.nsIn K mainGlobals "is_rule" = some (some (.ref f6))) (l6 : K.lookup f6 = some ⟨oc6, od6, .func (PySem.W.fnOf "is_rule" "is_rule" (defArgs (topS 6)) (defBody (topS 6)) (defScope (topS 6)) .none kV6 dc6 pm6 an6 cd6 ct6), sl6⟩) (c6 : PySem.W.codeIn K cd6 "is_rule" = true) (k6 : PySem.W.keepIn K (.ref f6) = true)
    (a7 : PySem.W.nsIn K mainGlobals "is_flood" = some (some (.ref f7))) (l7 : K.lookup f7 = some ⟨oc7, od7, .func (PySem.W.fnOf "is_flood" "is_flood" (defArgs (topS 7)) (defBody (topS 7)) (defScope (topS 7)) .none kV7 dc7 pm7 an7 cd7 ct7), sl7⟩) (c7 : PySem.W.codeIn K cd7 "is_flood" = true) (k7 : PySem.W.keepIn K (.ref f7) = true)
    (a9 : PySem.W.nsIn K mainGlobals "_law_box" = some (some (.ref f9))) (l9 : K.lookup f9 = some ⟨oc9, od9, .func (PySem.W.fnOf "_law_box" "_law_box" (defArgs (topS 9)) (defBody (topS 9)) (defScope (topS 9)) .none kV9 dc9 pm9 an9 cd9 ct9), sl9⟩) (c9 : PySem.W.codeIn K cd9 "_law_box" = true) (k9 : PySem.W.keepIn K (.ref f9) = true)
    (a10 : PySem.W.nsIn K mainGlobals "_law_take" = some (some (.ref f10))) (l10 : K.lookup f10 = some ⟨oc10, od10, .func (PySem.W.fnOf "_law_take" "_law_take" (defArgs (topS 10)) (defBody (topS 10)) (defScope (topS 10)) .none kV10 dc10 pm10 an10 cd10 ct10), sl10⟩) (c10 : PySem.W.codeIn K cd10 "_law_take" = true) (k10 : PySem.W.keepIn K (.ref f10) = true)
    (a11 : PySem.W.nsIn K mainGlobals "_law_cells" = some (some (.ref f11))) (l11 : K.lookup f11 = some ⟨oc11, od11, .func (PySem.W.fnOf "_law_cells" "_law_cells" (defArgs (topS 11)) (defBody (topS 11)) (defScope (topS 11)) .none kV11 dc11 pm11 an11 cd11 ct11), sl11⟩) (c11 : PySem.W.codeIn K cd11 "_law_cells" = true) (k11 : PySem.W.keepIn K (.ref f11) = true)
    (a12 : PySem.W.nsIn K mainGlobals "_law_of" = some (some (.ref f12))) (l12 : K.lookup f12 = some ⟨oc12, od12, .func (PySem.W.fnOf "_law_of" "_law_of" (defArgs (topS 12)) (defBody (topS 12)) (defScope (topS 12)) .none kV12 dc12 pm12 an12 cd12 ct12), sl12⟩) (c12 : PySem.W.codeIn K cd12 "_law_of" = true) (k12 : PySem.W.keepIn K (.ref f12) = true)
    (a13 : PySem.W.nsIn K mainGlobals "_law_same" = some (some (.ref f13))) (l13 : K.lookup f13 = some ⟨oc13, od13, .func (PySem.W.fnOf "_law_same" "_law_same" (defArgs (topS 13)) (defBody (topS 13)) (defScope (topS 13)) .none kV13 dc13 pm13 an13 cd13 ct13), sl13⟩) (c13 : PySem.W.codeIn K cd13 "_law_same" = true) (k13 : PySem.W.keepIn K (.ref f13) = true)
    (a14 : PySem.W.nsIn K mainGlobals "_law_mixed" = some (some (.ref f14))) (l14 : K.lookup f14 = some ⟨oc14, od14, .func (PySem.W.fnOf "_law_mixed" "_law_mixed" (defArgs (topS 14)) (defBody (topS 14)) (defScope (topS 14)) .none kV14 dc14 pm14 an14 cd14 ct14), sl14⟩) (c14 : PySem.W.codeIn K cd14 "_law_mixed" = true) (k14 : PySem.W.keepIn K (.ref f14) = true)
    (a15 : PySem.W.nsIn K mainGlobals "_law_tags" = some (some (.ref f15))) (l15 : K.lookup f15 = some ⟨oc15, od15, .func (PySem.W.fnOf "_law_tags" "_law_tags" (defArgs (topS 15)) (defBody (topS 15)) (defScope (topS 15)) .none kV15 dc15 pm15 an15 cd15 ct15), sl15⟩) (c15 : PySem.W.codeIn K cd15 "_law_tags" = true) (k15 : PySem.W.keepIn K (.ref f15) = true)
    (a16 : PySem.W.nsIn K mainGlobals "_law_cross" = some (some (.ref f16))) (l16 : K.lookup f16 = some ⟨oc16, od16, .func (PySem.W.fnOf "_law_cross" "_law_cross" (defArgs (topS 16)) (defBody (topS 16)) (defScope (topS 16)) .none kV16 dc16 pm16 an16 cd16 ct16), sl16⟩) (c16 : PySem.W.codeIn K cd16 "_law_cross" = true) (k16 : PySem.W.keepIn K (.ref f16) = true)
    (a17 : PySem.W.nsIn K mainGlobals "_law_twos" = some (some (.ref f17))) (l17 : K.lookup f17 = some ⟨oc17, od17, .func (PySem.W.fnOf "_law_twos" "_law_twos" (defArgs (topS 17)) (defBody (topS 17)) (defScope (topS 17)) .none kV17 dc17 pm17 an17 cd17 ct17), sl17⟩) (c17 : PySem.W.codeIn K cd17 "_law_twos" = true) (k17 : PySem.W.keepIn K (.ref f17) = true)
    (a18 : PySem.W.nsIn K mainGlobals "_law_some" = some (some (.ref f18))) (l18 : K.lookup f18 = some ⟨oc18, od18, .func (PySem.W.fnOf "_law_some" "_law_some" (defArgs (topS 18)) (defBody (topS 18)) (defScope (topS 18)) .none kV18 dc18 pm18 an18 cd18 ct18), sl18⟩) (c18 : PySem.W.codeIn K cd18 "_law_some" = true) (k18 : PySem.W.keepIn K (.ref f18) = true)
    (a19 : PySem.W.nsIn K mainGlobals "_law_rules" = some (some (.ref f19))) (l19 : K.lookup f19 = some ⟨oc19, od19, .func (PySem.W.fnOf "_law_rules" "_law_rules" (defArgs (topS 19)) (defBody (topS 19)) (defScope (topS 19)) .none kV19 dc19 pm19 an19 cd19 ct19), sl19⟩) (c19 : PySem.W.codeIn K cd19 "_law_rules" = true) (k19 : PySem.W.keepIn K (.ref f19) = true)
    (a20 : PySem.W.nsIn K mainGlobals "_law_waters" = some (some (.ref f20))) (l20 : K.lookup f20 = some ⟨oc20, od20, .func (PySem.W.fnOf "_law_waters" "_law_waters" (defArgs (topS 20)) (defBody (topS 20)) (defScope (topS 20)) .none kV20 dc20 pm20 an20 cd20 ct20), sl20⟩) (c20 : PySem.W.codeIn K cd20 "_law_waters" = true) (k20 : PySem.W.keepIn K (.ref f20) = true)
    (a21 : PySem.W.nsIn K mainGlobals "_law_is_name" = some (some (.ref f21))) (l21 : K.lookup f21 = some ⟨oc21, od21, .func (PySem.W.fnOf "_law_is_name" "_law_is_name" (defArgs (topS 21)) (defBody (topS 21)) (defScope (topS 21)) .none kV21 dc21 pm21 an21 cd21 ct21), sl21⟩) (c21 : PySem.W.codeIn K cd21 "_law_is_name" = true) (k21 : PySem.W.keepIn K (.ref f21) = true)
    (a22 : PySem.W.nsIn K mainGlobals "_law_is_two" = some (some (.ref f22))) (l22 : K.lookup f22 = some ⟨oc22, od22, .func (PySem.W.fnOf "_law_is_two" "_law_is_two" (defArgs (topS 22)) (defBody (topS 22)) (defScope (topS 22)) .none kV22 dc22 pm22 an22 cd22 ct22), sl22⟩) (c22 : PySem.W.codeIn K cd22 "_law_is_two" = true) (k22 : PySem.W.keepIn K (.ref f22) = true)
    (a23 : PySem.W.nsIn K mainGlobals "_law_is_twos" = some (some (.ref f23))) (l23 : K.lookup f23 = some ⟨oc23, od23, .func (PySem.W.fnOf "_law_is_twos" "_law_is_twos" (defArgs (topS 23)) (defBody (topS 23)) (defScope (topS 23)) .none kV23 dc23 pm23 an23 cd23 ct23), sl23⟩) (c23 : PySem.W.codeIn K cd23 "_law_is_twos" = true) (k23 : PySem.W.keepIn K (.ref f23) = true)
    (a24 : PySem.W.nsIn K mainGlobals "_law_is_law" = some (some (.ref f24))) (l24 : K.lookup f24 = some ⟨oc24, od24, .func (PySem.W.fnOf "_law_is_law" "_law_is_law" (defArgs (topS 24)) (defBody (topS 24)) (defScope (topS 24)) .none kV24 dc24 pm24 an24 cd24 ct24), sl24⟩) (c24 : PySem.W.codeIn K cd24 "_law_is_law" = true) (k24 : PySem.W.keepIn K (.ref f24) = true)
    (a25 : PySem.W.nsIn K mainGlobals "_law_is_tide" = some (some (.ref f25))) (l25 : K.lookup f25 = some ⟨oc25, od25, .func (PySem.W.fnOf "_law_is_tide" "_law_is_tide" (defArgs (topS 25)) (defBody (topS 25)) (defScope (topS 25)) .none kV25 dc25 pm25 an25 cd25 ct25), sl25⟩) (c25 : PySem.W.codeIn K cd25 "_law_is_tide" = true) (k25 : PySem.W.keepIn K (.ref f25) = true)
    (a26 : PySem.W.nsIn K mainGlobals "_law_asked" = some (some (.ref f26))) (l26 : K.lookup f26 = some ⟨oc26, od26, .func (PySem.W.fnOf "_law_asked" "_law_asked" (defArgs (topS 26)) (defBody (topS 26)) (defScope (topS 26)) .none kV26 dc26 pm26 an26 cd26 ct26), sl26⟩) (c26 : PySem.W.codeIn K cd26 "_law_asked" = true) (k26 : PySem.W.keepIn K (.ref f26) = true)
    (a27 : PySem.W.nsIn K mainGlobals "_law_bent" = some (some (.ref f27))) (l27 : K.lookup f27 = some ⟨oc27, od27, .func (PySem.W.fnOf "_law_bent" "_law_bent" (defArgs (topS 27)) (defBody (topS 27)) (defScope (topS 27)) .none kV27 dc27 pm27 an27 cd27 ct27), sl27⟩) (c27 : PySem.W.codeIn K cd27 "_law_bent" = true) (k27 : PySem.W.keepIn K (.ref f27) = true)
    (a28 : PySem.W.nsIn K mainGlobals "_law_by_hand_right" = some (some (.ref f28))) (l28 : K.lookup f28 = some ⟨oc28, od28, .func (PySem.W.fnOf "_law_by_hand_right" "_law_by_hand_right" (defArgs (topS 28)) (defBody (topS 28)) (defScope (topS 28)) .none kV28 dc28 pm28 an28 cd28 ct28), sl28⟩) (c28 : PySem.W.codeIn K cd28 "_law_by_hand_right" = true) (k28 : PySem.W.keepIn K (.ref f28) = true)
    (a29 : PySem.W.nsIn K mainGlobals "_law_right" = some (some (.ref f29))) (l29 : K.lookup f29 = some ⟨oc29, od29, .func (PySem.W.fnOf "_law_right" "_law_right" (defArgs (topS 29)) (defBody (topS 29)) (defScope (topS 29)) .none kV29 dc29 pm29 an29 cd29 ct29), sl29⟩) (c29 : PySem.W.codeIn K cd29 "_law_right" = true) (k29 : PySem.W.keepIn K (.ref f29) = true)
    (a30 : PySem.W.nsIn K mainGlobals "law" = some (some (.ref f30))) (l30 : K.lookup f30 = some ⟨oc30, od30, .func (PySem.W.fnOf "law" "law" (defArgs (topS 30)) (defBody (topS 30)) (defScope (topS 30)) .none kV30 dc30 pm30 an30 cd30 ct30), sl30⟩) (c30 : PySem.W.codeIn K cd30 "law" = true) (k30 : PySem.W.keepIn K (.ref f30) = true)
    (z0 : PySem.W.nsIn K mainGlobals "len" = some none)
    (z1 : PySem.W.nsIn K mainGlobals "isinstance" = some none)
    (z2 : PySem.W.nsIn K mainGlobals "tuple" = some none)
    (z3 : PySem.W.nsIn K mainGlobals "list" = some none)
    (z4 : PySem.W.nsIn K mainGlobals "str" = some none)
    (z5 : PySem.W.nsIn K mainGlobals "bool" = some none)
    (z6 : PySem.W.nsIn K mainGlobals "int" = some none)
    (z7 : PySem.W.nsIn K mainGlobals "all" = some none)
    (z8 : PySem.W.nsIn K mainGlobals "zip" = some none)
    (z9 : PySem.W.nsIn K mainGlobals "range" = some none)
    (z10 : PySem.W.nsIn K mainGlobals "sorted" = some none)
    (z11 : PySem.W.nsIn K mainGlobals "abs" = some none)
    (z12 : PySem.W.nsIn K mainGlobals "min" = some none)
    (z13 : PySem.W.nsIn K mainGlobals "max" = some none)
    (z14 : PySem.W.nsIn K mainGlobals "enumerate" = some none)
    : ∃ fd : FuncData, (∀ (s : Shared) (v : Value), BindsTo s fd ⟨[v], []⟩ [("_law_script", v)]) ∧ ∀ base : Heap, K.In base → base.Ns mainGlobals mg → FnOk l.prog w K mg base CX0 9 fa fd ["_law_script"] (spLaw K) := by
  have e := hfa.symm.trans (PySem.W.mg_of X G a30)
  cases e
  have F30 := fun_mk (st := topS 30) l30 c30 k30
  have B : Bts mg := ⟨PySem.W.mg_none_of X G z0, PySem.W.mg_none_of X G z1, PySem.W.mg_none_of X G z2, PySem.W.mg_none_of X G z3, PySem.W.mg_none_of X G z4, PySem.W.mg_none_of X G z5, PySem.W.mg_none_of X G z6, PySem.W.mg_none_of X G z7, PySem.W.mg_none_of X G z8, PySem.W.mg_none_of X G z9, PySem.W.mg_none_of X G z10, PySem.W.mg_none_of X G z11, PySem.W.mg_none_of X G z12, PySem.W.mg_none_of X G z13, PySem.W.mg_none_of X G z14⟩
  refine ⟨PySem.W.fnOf "law" "law" (defArgs (topS 30)) (defBody (topS 30)) (defScope (topS 30)) .none kV30 dc30 pm30 an30 cd30 ct30, fun s v => .of_eq rfl, fun base _ _ => ?_⟩
  exact all_ok B (def_mk X G a1 l1 c1 k1) (def_mk X G a2 l2 c2 k2) (def_mk X G a4 l4 c4 k4) (def_mk X G a5 l5 c5 k5) (def_mk X G a6 l6 c6 k6) (def_mk X G a7 l7 c7 k7) (def_mk X G a9 l9 c9 k9) (def_mk X G a10 l10 c10 k10) (def_mk X G a11 l11 c11 k11) (def_mk X G a12 l12 c12 k12) (def_mk X G a13 l13 c13 k13) (def_mk X G a14 l14 c14 k14) (def_mk X G a15 l15 c15 k15) (def_mk X G a16 l16 c16 k16) (def_mk X G a17 l17 c17 k17) (def_mk X G a18 l18 c18 k18) (def_mk X G a19 l19 c19 k19) (def_mk X G a20 l20 c20 k20) (def_mk X G a21 l21 c21 k21) (def_mk X G a22 l22 c22 k22) (def_mk X G a23 l23 c23 k23) (def_mk X G a24 l24 c24 k24) (def_mk X G a25 l25 c25 k25) (def_mk X G a26 l26 c26 k26) (def_mk X G a27 l27 c27 k27) (def_mk X G a28 l28 c28 k28) (def_mk X G a29 l29 c29 k29) F30
theorem walk {l : PySem.W.OpenLaw} {q : Program} {loose : List Str} {XP : (Str → Option Value) → Heap → Prop} {YP : World → Heap → Prop} {d : DefRec} {K : Params → PySem.W.Frag} (hn : l.most = some 63) (hdf : d.params.defaults = [])
    (hY : ∀ (w : World) (h : Heap), YP w h → (K w.params).In h)
    (F : ∀ (w : World) (mg : Str → Option Value) (fa : Addr) (h : Heap), (K w.params).In h → h.Ns mainGlobals mg → mg d.name = some (.ref fa) →
      ∃ fd : FuncData, (∀ (s : Shared) (u : Value), BindsTo s fd ⟨[u], []⟩ [("_law_script", u)]) ∧ ∀ base : Heap, (K w.params).In base → base.Ns mainGlobals mg → FnOk l.prog w (K w.params) mg base CX0 9 fa fd ["_law_script"] (spLaw (K w.params))) :
    PySem.W.WalkO q loose XP YP l.row.toRowW d [] (fun f vs => PySem.call f vs) :=
  L2.walk_of (n := 63) (k := 9) (x := "_law_script") (CX := fun _ => CX0) (sp := fun w => spLaw (K w.params)) hn (by decide) hdf ⟨rfl, by decide, by decide⟩ hY F (fun _ _ a ns hl _ hS => ⟨a, ns, rfl, hS, hl, fun _ => rfl⟩) fun _ _ _ _ _ z => z
end Lf
open PySem PySem.W PyProof.Rows
set_option maxRecDepth 100000 in
set_option maxHeartbeats 0 in
theorem PySem.Challenge.cw_lastfords_k00_pairs_rules_and_floods_holds : PySem.Challenge.rw_lastfords_k00_pairs_rules_and_floods.Holds := by
  w_on; o_law; k_head; (case hw => w_witness2)
  k_fill
  refine Lf.walk (l := PySem.Challenge.rw_lastfords_k00_pairs_rules_and_floods) rfl rfl (fun w h Y => PySem.W.kIn_of Y) ?F
  case F =>
    intro w mg fa h KX G hmg
    refine' Lf.all_mk KX G hmg ?a1 ?l1 ?c1 ?k1 ?a2 ?l2 ?c2 ?k2 ?a4 ?l4 ?c4 ?k4 ?a5 ?l5 ?c5 ?k5 ?a6 ?l6 ?c6 ?k6 ?a7 ?l7 ?c7 ?k7 ?a9 ?l9 ?c9 ?k9 ?a10 ?l10 ?c10 ?k10 ?a11 ?l11 ?c11 ?k11 ?a12 ?l12 ?c12 ?k12 ?a13 ?l13 ?c13 ?k13 ?a14 ?l14 ?c14 ?k14 ?a15 ?l15 ?c15 ?k15 ?a16 ?l16 ?c16 ?k16 ?a17 ?l17 ?c17 ?k17 ?a18 ?l18 ?c18 ?k18 ?a19 ?l19 ?c19 ?k19 ?a20 ?l20 ?c20 ?k20 ?a21 ?l21 ?c21 ?k21 ?a22 ?l22 ?c22 ?k22 ?a23 ?l23 ?c23 ?k23 ?a24 ?l24 ?c24 ?k24 ?a25 ?l25 ?c25 ?k25 ?a26 ?l26 ?c26 ?k26 ?a27 ?l27 ?c27 ?k27 ?a28 ?l28 ?c28 ?k28 ?a29 ?l29 ?c29 ?k29 ?a30 ?l30 ?c30 ?k30 ?z0 ?z1 ?z2 ?z3 ?z4 ?z5 ?z6 ?z7 ?z8 ?z9 ?z10 ?z11 ?z12 ?z13 ?z14
    (case a1 => k_is); (case l1 => k_is); (case c1 => k_is); (case k1 => k_is)
    (case a2 => k_is); (case l2 => k_is); (case c2 => k_is); (case k2 => k_is)
    (case a4 => k_is); (case l4 => k_is); (case c4 => k_is); (case k4 => k_is)
    (case a5 => k_is); (case l5 => k_is); (case c5 => k_is); (case k5 => k_is)
    (case a6 => k_is); (case l6 => k_is); (case c6 => k_is); (case k6 => k_is)
    (case a7 => k_is); (case l7 => k_is); (case c7 => k_is); (case k7 => k_is)
    (case a9 => k_is); (case l9 => k_is); (case c9 => k_is); (case k9 => k_is)
    (case a10 => k_is); (case l10 => k_is); (case c10 => k_is); (case k10 => k_is)
    (case a11 => k_is); (case l11 => k_is); (case c11 => k_is); (case k11 => k_is)
    (case a12 => k_is); (case l12 => k_is); (case c12 => k_is); (case k12 => k_is)
    (case a13 => k_is); (case l13 => k_is); (case c13 => k_is); (case k13 => k_is)
    (case a14 => k_is); (case l14 => k_is); (case c14 => k_is); (case k14 => k_is)
    (case a15 => k_is); (case l15 => k_is); (case c15 => k_is); (case k15 => k_is)
    (case a16 => k_is); (case l16 => k_is); (case c16 => k_is); (case k16 => k_is)
    (case a17 => k_is); (case l17 => k_is); (case c17 => k_is); (case k17 => k_is)
    (case a18 => k_is); (case l18 => k_is); (case c18 => k_is); (case k18 => k_is)
    (case a19 => k_is); (case l19 => k_is); (case c19 => k_is); (case k19 => k_is)
    (case a20 => k_is); (case l20 => k_is); (case c20 => k_is); (case k20 => k_is)
    (case a21 => k_is); (case l21 => k_is); (case c21 => k_is); (case k21 => k_is)
    (case a22 => k_is); (case l22 => k_is); (case c22 => k_is); (case k22 => k_is)
    (case a23 => k_is); (case l23 => k_is); (case c23 => k_is); (case k23 => k_is)
    (case a24 => k_is); (case l24 => k_is); (case c24 => k_is); (case k24 => k_is)
    (case a25 => k_is); (case l25 => k_is); (case c25 => k_is); (case k25 => k_is)
    (case a26 => k_is); (case l26 => k_is); (case c26 => k_is); (case k26 => k_is)
    (case a27 => k_is); (case l27 => k_is); (case c27 => k_is); (case k27 => k_is)
    (case a28 => k_is); (case l28 => k_is); (case c28 => k_is); (case k28 => k_is)
    (case a29 => k_is); (case l29 => k_is); (case c29 => k_is); (case k29 => k_is)
    (case a30 => k_is); (case l30 => k_is); (case c30 => k_is); (case k30 => k_is)
    (case z0 => k_is); (case z1 => k_is); (case z2 => k_is); (case z3 => k_is); (case z4 => k_is); (case z5 => k_is); (case z6 => k_is); (case z7 => k_is); (case z8 => k_is); (case z9 => k_is); (case z10 => k_is); (case z11 => k_is); (case z12 => k_is); (case z13 => k_is); (case z14 => k_is)
