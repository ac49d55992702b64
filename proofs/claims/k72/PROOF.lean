import PyProof.Rows.All
import Wide.All
import OpenK.AllK
import Wide.FinOn
import HandS.ForMost
import HandS.Deep
import HandS.IsInst
import HandS.StrMore
import HandS.Walk
import KE.LtData
import KE.SortData
import HandS.TryMany
import HandS.Wide
import HandS.TupAny
import HandS.TupLe
import HandS.TryOnly
import HandS.Zip
import HandS.ExcOwn
import HandS.WordsExc
import HandS.Defaults
import HandS.TupSets
import HandS.SetKeys
import KE.KSetAt
import HandS.Strs
import HandS.SortInts
import HandS.Star
import HandS.Style
import KE.DataMinMax
import HandS.SortKw
import HandS.Conv
import HandS.DictComp
import KE.GoesMore
import PyProof.EnumMake
import HandS.Small
import HandS.Text
import HandS.Flow
import PySem.Challenge.RW_lastfords_k72_rules_that_fords_keep
set_option Elab.async false
set_option linter.all false
set_option maxRecDepth 100000
set_option maxHeartbeats 4000000
namespace Lf
open PySem PySem.Spec PyProof.Rows L2

/-! ## heaps: all but one address -/
def hide (u : Addr) (H : Hp) : Hp := fun b => if b = u then none else H b
theorem hide_ne {u b : Addr} {H : Hp} (h : b ≠ u) : hide u H b = H b := if_neg h
theorem hide_at {u : Addr} {H : Hp} : hide u H u = none := if_pos rfl
theorem hide_sub {u : Addr} {H : Hp} : Same (hide u H) H := fun b o e => by
  unfold hide at e
  split at e
  · cases e
  · exact e
theorem hide_in {u b : Addr} {H : Hp} {o : HO} (h : b ≠ u) (e : H b = some o) : hide u H b = some o := (hide_ne h).trans e
theorem hide_mono {u : Addr} {H H' : Hp} (e : Same H H') : Same (hide u H) (hide u H') := fun b o q => by
  unfold hide at q ⊢
  split at q
  · cases q
  · rename_i h
    rw [if_neg h]
    exact e _ _ q
theorem hide_upd {u : Addr} {H : Hp} {o : HO} : hide u (upd H u o) = hide u H := by
  funext b
  unfold hide upd
  split <;> rfl
theorem same_new {H : Hp} {p : Addr} (h : H p = none) (o : HO) : Same H (upd H p o) := fun b u q => by
  rw [upd_ne (ne_of_none q h)]
  exact q
/-- an object that was made meanwhile is written: what stood at first is as it was -/
theorem same_upd {H H1 : Hp} {p : Addr} (e : Same H H1) (h : H p = none) (o : HO) : Same H (upd H1 p o) := fun b u q => by
  rw [upd_ne (ne_of_none q h)]
  exact e _ _ q
theorem same_seqT {K : PySem.W.Frag} {H H' : Hp} {a : Addr} {xs : List V} (e : Same H H') (h : SqT K H a xs) : SqT K H' a xs := by
  rcases h with (h | ⟨o, h⟩) | h
  · exact .inl (.inl (e _ _ h))
  · exact .inl (.inr ⟨o, e _ _ h⟩)
  · exact .inr h

/-! ## data that stand in the heap -/
mutual
inductive Dd (H : Hp) : V → PyData → Prop
  | non : Dd H .non .none
  | bl (b : Bool) : Dd H (.bl b) (.bool b)
  | int (i : Int) : Dd H (.int i) (.int i)
  | str (x : Str) : Dd H (.str x) (.str x)
  | lst {a : Addr} {xs : List V} {ds : List PyData} : H a = some (.lst xs) → DdAll H xs ds → Dd H (.ref a) (.list ds)
  | tup {a : Addr} {xs : List V} {ds : List PyData} : H a = some (.tup xs) → DdAll H xs ds → Dd H (.ref a) (.tuple ds)
inductive DdAll (H : Hp) : List V → List PyData → Prop
  | nil : DdAll H [] []
  | cons {v : V} {vs : List V} {d : PyData} {ds : List PyData} : Dd H v d → DdAll H vs ds → DdAll H (v :: vs) (d :: ds)
end
mutual
theorem Dd.mono {H H' : Hp} (e : Same H H') : ∀ {d : PyData} {v : V}, Dd H v d → Dd H' v d
  | .none, _, h => by cases h; exact .non
  | .bool _, _, h => by cases h; exact .bl _
  | .int _, _, h => by cases h; exact .int _
  | .str _, _, h => by cases h; exact .str _
  | .list ds, _, h => by
    cases h with
    | lst h1 h2 => exact .lst (e _ _ h1) (DdAll.mono e h2)
  | .tuple ds, _, h => by
    cases h with
    | tup h1 h2 => exact .tup (e _ _ h1) (DdAll.mono e h2)
  | .dict _, _, h => by cases h
theorem DdAll.mono {H H' : Hp} (e : Same H H') : ∀ {ds : List PyData} {vs : List V}, DdAll H vs ds → DdAll H' vs ds
  | [], _, h => by cases h; exact .nil
  | _ :: _, _, h => by
    cases h with
    | cons h1 h2 => exact .cons (Dd.mono e h1) (DdAll.mono e h2)
end
mutual
theorem Dd.dp {K : PySem.W.Frag} {H : Hp} : ∀ {d : PyData} {v : V}, Dd H v d → Dp K H v d
  | .none, _, h => by cases h; exact .non
  | .bool _, _, h => by cases h; exact .bl _
  | .int _, _, h => by cases h; exact .int _
  | .str _, _, h => by cases h; exact .str _
  | .list ds, _, h => by
    cases h with
    | lst h1 h2 => exact .lst (.of h1) (DdAll.dp h2)
  | .tuple ds, _, h => by
    cases h with
    | tup h1 h2 => exact .tup (.of h1) (DdAll.dp h2)
  | .dict _, _, h => by cases h
theorem DdAll.dp {K : PySem.W.Frag} {H : Hp} : ∀ {ds : List PyData} {vs : List V}, DdAll H vs ds → DpAll K H vs ds
  | [], _, h => by cases h; exact .nil
  | _ :: _, _, h => by
    cases h with
    | cons h1 h2 => exact .cons (Dd.dp h1) (DdAll.dp h2)
end
theorem DdAll.length {H : Hp} : ∀ {ds : List PyData} {vs : List V}, DdAll H vs ds → vs.length = ds.length
  | [], _, h => by cases h; rfl
  | _ :: _, _, h => by
    cases h with
    | cons h1 h2 => exact congrArg (· + 1) (DdAll.length h2)
theorem DdAll.get {H : Hp} : ∀ {ds : List PyData} {vs : List V} {i : Nat} {v : V}, DdAll H vs ds → vs[i]? = some v → ∃ d, ds[i]? = some d ∧ Dd H v d
  | [], _, i, v, h, e => by cases h; simp at e
  | d :: ds, _, 0, v, h, e => by
    cases h with
    | cons h1 h2 =>
      simp at e
      subst e
      exact ⟨d, rfl, h1⟩
  | d :: ds, _, i + 1, v, h, e => by
    cases h with
    | cons h1 h2 =>
      simp at e
      obtain ⟨d', q1, q2⟩ := DdAll.get h2 e
      exact ⟨d', by simpa using q1, q2⟩
theorem DdAll.get' {H : Hp} {ds : List PyData} {vs : List V} {i : Nat} {d : PyData} (h : DdAll H vs ds) (e : ds[i]? = some d) : ∃ v, vs[i]? = some v ∧ Dd H v d := by
  have hl := h.length
  obtain ⟨hi, _⟩ := List.getElem?_eq_some_iff.mp e
  have hv : vs[i]? = some vs[i] := List.getElem?_eq_getElem (by omega)
  obtain ⟨d', q1, q2⟩ := h.get hv
  rw [e] at q1
  cases q1
  exact ⟨_, hv, q2⟩
theorem DdAll.append {H : Hp} : ∀ {ds es : List PyData} {vs ws : List V}, DdAll H vs ds → DdAll H ws es → DdAll H (vs ++ ws) (ds ++ es)
  | [], _, _, _, h, k => by cases h; exact k
  | _ :: _, _, _, _, h, k => by
    cases h with
    | cons h1 h2 => exact .cons h1 (DdAll.append h2 k)
theorem DdAll.take {H : Hp} : ∀ {ds : List PyData} {vs : List V} (n : Nat), DdAll H vs ds → DdAll H (vs.take n) (ds.take n)
  | _, _, 0, _ => .nil
  | [], _, n + 1, h => by cases h; exact .nil
  | _ :: _, _, n + 1, h => by
    cases h with
    | cons h1 h2 => exact .cons h1 (DdAll.take n h2)
theorem DdAll.drop {H : Hp} : ∀ {ds : List PyData} {vs : List V} (n : Nat), DdAll H vs ds → DdAll H (vs.drop n) (ds.drop n)
  | _, _, 0, h => h
  | [], _, n + 1, h => by cases h; exact .nil
  | _ :: _, _, n + 1, h => by
    cases h with
    | cons h1 h2 => exact DdAll.drop n h2
theorem DdAll.of_mem {H : Hp} {vs : List V} (h : ∀ v ∈ vs, ∃ d, Dd H v d) : ∃ ds, DdAll H vs ds := by
  induction vs with
  | nil => exact ⟨[], .nil⟩
  | cons v vs ih =>
    obtain ⟨d, hd⟩ := h v List.mem_cons_self
    obtain ⟨ds, hds⟩ := ih fun w hw => h w (List.mem_cons_of_mem _ hw)
    exact ⟨d :: ds, .cons hd hds⟩

/-! ## data of bounded depth and size -/
def wf : Nat → PyData → Bool
  | _, .none => true
  | _, .bool _ => true
  | _, .int _ => true
  | _, .str x => PySem.PyData.canLay0 (.str x) && decide (x.length ≤ 1000)
  | n + 1, .list ds => decide (ds.length ≤ 1000) && ds.all (wf n)
  | n + 1, .tuple ds => decide (ds.length ≤ 1000) && ds.all (wf n)
  | _, _ => false
theorem wf_str {n : Nat} {x : Str} (h : wf n (.str x) = true) : PySem.PyData.canLay0 (.str x) = true ∧ x.length ≤ 1000 := by
  cases n <;> (simp only [wf, Bool.and_eq_true, decide_eq_true_eq] at h; exact h)
theorem wf_tuple {n : Nat} {ds : List PyData} (h : wf n (.tuple ds) = true) : ∃ m, n = m + 1 ∧ ds.length ≤ 1000 ∧ ∀ d ∈ ds, wf m d = true := by
  cases n with
  | zero => simp [wf] at h
  | succ m =>
    simp only [wf, Bool.and_eq_true, decide_eq_true_eq, List.all_eq_true] at h
    exact ⟨m, rfl, h.1, h.2⟩
theorem wf_list {n : Nat} {ds : List PyData} (h : wf n (.list ds) = true) : ∃ m, n = m + 1 ∧ ds.length ≤ 1000 ∧ ∀ d ∈ ds, wf m d = true := by
  cases n with
  | zero => simp [wf] at h
  | succ m =>
    simp only [wf, Bool.and_eq_true, decide_eq_true_eq, List.all_eq_true] at h
    exact ⟨m, rfl, h.1, h.2⟩
theorem depthAll_le {m : Nat} : ∀ {ds : List PyData}, (∀ d ∈ ds, d.depth ≤ m) → PyData.depthAll ds ≤ m
  | [], _ => by simp [PyData.depthAll]
  | d :: ds, h => by
    have h1 := h d List.mem_cons_self
    have h2 := depthAll_le (ds := ds) fun e he => h e (List.mem_cons_of_mem _ he)
    simp only [PyData.depthAll]
    omega
theorem layAll_of : ∀ {ds : List PyData}, (∀ d ∈ ds, d.canLay0 = true) → PyData.canLayAll0 ds = true
  | [], _ => by simp [PyData.canLayAll0]
  | d :: ds, h => by
    simp only [PyData.canLayAll0, Bool.and_eq_true]
    exact ⟨h d List.mem_cons_self, layAll_of fun e he => h e (List.mem_cons_of_mem _ he)⟩
theorem wf_lay : ∀ (n : Nat) (d : PyData), wf n d = true → d.canLay0 = true ∧ d.depth ≤ n
  | n, .none, _ => by simp [PyData.canLay0, PyData.depth]
  | n, .bool _, _ => by simp [PyData.canLay0, PyData.depth]
  | n, .int _, _ => by simp [PyData.canLay0, PyData.depth]
  | n, .str x, h => ⟨(wf_str h).1, by simp [PyData.depth]⟩
  | 0, .list _, h => by simp [wf] at h
  | 0, .tuple _, h => by simp [wf] at h
  | n + 1, .list ds, h => by
    obtain ⟨m, e, _, h2⟩ := wf_list h
    cases e
    have r : ∀ d ∈ ds, d.canLay0 = true ∧ d.depth ≤ n := fun d hd => wf_lay n d (h2 d hd)
    have q := depthAll_le fun d hd => (r d hd).2
    refine ⟨?_, ?_⟩
    · simp only [PyData.canLay0]
      exact layAll_of fun d hd => (r d hd).1
    · simp only [PyData.depth]
      omega
  | n + 1, .tuple ds, h => by
    obtain ⟨m, e, _, h2⟩ := wf_tuple h
    cases e
    have r : ∀ d ∈ ds, d.canLay0 = true ∧ d.depth ≤ n := fun d hd => wf_lay n d (h2 d hd)
    have q := depthAll_le fun d hd => (r d hd).2
    refine ⟨?_, ?_⟩
    · simp only [PyData.canLay0]
      exact layAll_of fun d hd => (r d hd).1
    · simp only [PyData.depth]
      omega
  | 0, .dict _, h => by simp [wf] at h
  | n + 1, .dict _, h => by simp [wf] at h
theorem wf_shaped {n : Nat} {d : PyData} (h : wf n d = true) (hn : n ≤ 60) : SeqAt.shaped d = true := by
  obtain ⟨h1, h2⟩ := wf_lay n d h
  show (d.canLay0 && decide (d.depth ≤ 64)) = true
  rw [Bool.and_eq_true]
  exact ⟨h1, decide_eq_true (by omega)⟩
theorem wf_mono : ∀ (n m : Nat) (d : PyData), n ≤ m → wf n d = true → wf m d = true
  | n, m, .none, _, _ => by cases m <;> rfl
  | n, m, .bool _, _, _ => by cases m <;> rfl
  | n, m, .int _, _, _ => by cases m <;> rfl
  | n, m, .str x, _, h => by
    obtain ⟨a, b⟩ := wf_str h
    cases m <;> simp only [wf, Bool.and_eq_true, decide_eq_true_eq] <;> exact ⟨a, b⟩
  | n, m, .list ds, hm, h => by
    obtain ⟨k, e, h1, h2⟩ := wf_list h
    cases m with
    | zero => omega
    | succ m =>
      simp only [wf, Bool.and_eq_true, decide_eq_true_eq, List.all_eq_true]
      exact ⟨h1, fun d hd => wf_mono k m d (by omega) (h2 d hd)⟩
  | n, m, .tuple ds, hm, h => by
    obtain ⟨k, e, h1, h2⟩ := wf_tuple h
    cases m with
    | zero => omega
    | succ m =>
      simp only [wf, Bool.and_eq_true, decide_eq_true_eq, List.all_eq_true]
      exact ⟨h1, fun d hd => wf_mono k m d (by omega) (h2 d hd)⟩
  | n, m, .dict _, _, h => by cases n <;> simp [wf] at h
termination_by n m d => n
decreasing_by all_goals omega

/-! ## the kind of a datum -/
def kindD : PyData → String
  | .none => "NoneType" | .bool _ => "bool" | .int _ => "int" | .str _ => "str" | .list _ => "list" | .tuple _ => "tuple" | .dict _ => "dict"
theorem Dd.ty {K : PySem.W.Frag} {H : Hp} {v : V} {d : PyData} (h : Dd H v d) : TyX K H v (.type (kindD d)) := by
  cases h with
  | non => exact .base .non
  | bl b => exact .base (.bl b)
  | int i => exact .base (.int i)
  | str x => exact .base (.str x)
  | lst h1 _ => exact .base (.lst h1)
  | tup h1 _ => exact .base (.tup h1)
def isTup : PyData → Bool | .tuple _ => true | _ => false
def isLst : PyData → Bool | .list _ => true | _ => false
def isStr : PyData → Bool | .str _ => true | _ => false
def isBl : PyData → Bool | .bool _ => true | _ => false
def isInt : PyData → Bool | .bool _ => true | .int _ => true | _ => false
def noDict : PyData → Bool | .dict _ => false | _ => true
theorem Dd.noDict {H : Hp} {v : V} {d : PyData} (h : Dd H v d) : noDict d = true := by cases h <;> rfl
theorem kit_tup {K : PySem.W.Frag} (d : PyData) : PySem.W.kitOne K (.type (kindD d)) (.type "tuple") = some (isTup d) := kit_ty (by cases d <;> (dsimp only [kindD, isTup]; decide +kernel))
theorem kit_lst {K : PySem.W.Frag} (d : PyData) : PySem.W.kitOne K (.type (kindD d)) (.type "list") = some (isLst d) := kit_ty (by cases d <;> (dsimp only [kindD, isLst]; decide +kernel))
theorem kit_str {K : PySem.W.Frag} (d : PyData) : PySem.W.kitOne K (.type (kindD d)) (.type "str") = some (isStr d) := kit_ty (by cases d <;> (dsimp only [kindD, isStr]; decide +kernel))
theorem kit_bl {K : PySem.W.Frag} (d : PyData) : PySem.W.kitOne K (.type (kindD d)) (.type "bool") = some (isBl d) := kit_ty (by cases d <;> (dsimp only [kindD, isBl]; decide +kernel))
theorem kit_int {K : PySem.W.Frag} (d : PyData) : PySem.W.kitOne K (.type (kindD d)) (.type "int") = some (isInt d) := kit_ty (by cases d <;> (dsimp only [kindD, isInt]; decide +kernel))

/-! ## operators on data -/
section
variable {X : Cx}
def rLtD (K : PySem.W.Frag) : R2 := fun x y H Q => ∃ d e, Dp K H x d ∧ Dp K H y e ∧ PySem.W.alike d e = true ∧ d ≠ .none ∧ d.depth ≤ 64 ∧ Q (.bl (PySem.W.dataLt d e)) H
theorem op_ltD (hu : X.A.units + 64 < cLine) : OpR X (compareOp .Lt) (rLtD X.K) := by
  intro pins s σ H x y v u Q I rx ry h
  obtain ⟨d, e, hd, he, al, hn, dep, q⟩ := h
  obtain ⟨as, r1⟩ := Dp.reads I d x v hd rx
  obtain ⟨bs, r2⟩ := Dp.reads I e y u he ry
  have R := PySem.W.rcLt_alike d e X.A s v u as bs r1 r2 al hn (by
    have := Nat.min_le_left d.depth e.depth
    omega)
  have z : wpAny (model X.prog X.w) X.A (compareOp .Lt v u) (EP X pins σ Q) X.xe s := R X.prog X.w X.xe (EP X pins σ Q) ⟨.bl _, H, I, rfl, q⟩
  exact z
def rNotInTD (K : PySem.W.Frag) : R2 := fun x y H Q => ∃ d ds, Dp K H x d ∧ Dp K H y (.tuple ds) ∧ SeqAt.shaped d = true ∧ SeqAt.shaped (.tuple ds) = true ∧ Q (.bl (!ds.any fun z => PyData.eqv z d)) H
theorem op_notInTD (hu : X.A.units + 65 < cLine) : OpR X (compareOp .NotIn) (rNotInTD X.K) := by
  intro pins s σ H x y v u Q I rx ry h
  obtain ⟨d, ds, hd, he, sd, se, q⟩ := h
  obtain ⟨as, r1⟩ := Dp.reads I d x v hd rx
  obtain ⟨bs, r2⟩ := Dp.reads I (.tuple ds) y u he ry
  exact SeqAt.notIn_tuple_reads r2 r1 (SeqAt.canLay_of_shaped se) (SeqAt.canLay_of_shaped sd) (room_in_shaped sd hu) ⟨.bl _, H, I, rfl, q⟩
end
theorem each_of {H : Hp} {K : PySem.W.Frag} {h : Heap} {F : V → PyData → Prop} {G : Value → PyData → Prop} (k : ∀ v d u, F v d → RelV v u → G u d) : ∀ {vs : List V} {ds : List PyData} {us : List Value},
    Paired F vs ds → Vals vs us → PySem.W.EachIs G us ds
  | [], _, _, h, r => by cases h; cases r; exact .nil
  | _ :: _, _, _, h, r => by
    cases h with
    | cons h1 h2 =>
      cases r with
      | cons r1 r2 => exact .cons (k _ _ _ h1 r1) (each_of (H := H) (K := K) (h := h) k h2 r2)
end Lf

set_option maxHeartbeats 4000000
namespace Sm
open PySem PySem.Spec PyProof.Rows L2 Lf

/-! ## data in the heap, with dicts and instances -/
abbrev CM := Str → Addr → Prop
def kD : Key → PyData
  | .inl i => .int i
  | .inr x => .str x
mutual
inductive Dv (cm : CM) (H : Hp) : V → PyData → Prop
  | non : Dv cm H .non .none
  | bl (b : Bool) : Dv cm H (.bl b) (.bool b)
  | int (i : Int) : Dv cm H (.int i) (.int i)
  | str (x : Str) : Dv cm H (.str x) (.str x)
  | lst {a : Addr} {xs : List V} {ds : List PyData} : H a = some (.lst xs) → DvA cm H xs ds → Dv cm H (.ref a) (.list ds)
  | tup {a : Addr} {xs : List V} {ds : List PyData} : H a = some (.tup xs) → DvA cm H xs ds → Dv cm H (.ref a) (.tuple ds)
  | dK {a : Addr} {kvs : List (Key × V)} {ps : List (PyData × PyData)} : Rd H a (.dK kvs) → (kvs.map (·.1)).Nodup → DvK cm H kvs ps → Dv cm H (.ref a) (.dict ps)
  | dT {a : Addr} {kvs : List (List Key × V)} {ps : List (PyData × PyData)} : H a = some (.dT kvs) → (kvs.map (·.1)).Nodup → DvT cm H kvs ps → Dv cm H (.ref a) (.dict ps)
  | ins {a C dx : Addr} {c : Str} {fs : List (Str × V)} {ps : List (PyData × PyData)} : H a = some (.ins C dx fs) → cm c C → DvF cm H fs ps → Dv cm H (.ref a) (.dict ((.none, .str c) :: ps))
inductive DvA (cm : CM) (H : Hp) : List V → List PyData → Prop
  | nil : DvA cm H [] []
  | cons {v : V} {vs : List V} {d : PyData} {ds : List PyData} : Dv cm H v d → DvA cm H vs ds → DvA cm H (v :: vs) (d :: ds)
inductive DvK (cm : CM) (H : Hp) : List (Key × V) → List (PyData × PyData) → Prop
  | nil : DvK cm H [] []
  | cons {k : Key} {v : V} {r : List (Key × V)} {d : PyData} {ps : List (PyData × PyData)} : Dv cm H v d → DvK cm H r ps → DvK cm H ((k, v) :: r) ((kD k, d) :: ps)
inductive DvT (cm : CM) (H : Hp) : List (List Key × V) → List (PyData × PyData) → Prop
  | nil : DvT cm H [] []
  | cons {k : List Key} {v : V} {r : List (List Key × V)} {d : PyData} {ps : List (PyData × PyData)} : Dv cm H v d → DvT cm H r ps → DvT cm H ((k, v) :: r) ((.tuple (k.map kD), d) :: ps)
inductive DvF (cm : CM) (H : Hp) : List (Str × V) → List (PyData × PyData) → Prop
  | nil : DvF cm H [] []
  | cons {k : Str} {v : V} {r : List (Str × V)} {d : PyData} {ps : List (PyData × PyData)} : Dv cm H v d → DvF cm H r ps → DvF cm H ((k, v) :: r) ((.str k, d) :: ps)
end
mutual
theorem Dv.mono {cm : CM} {H H' : Hp} (e : Same H H') {v : V} {d : PyData} : Dv cm H v d → Dv cm H' v d
  | .non => .non
  | .bl b => .bl b
  | .int i => .int i
  | .str x => .str x
  | .lst h k => .lst (e _ _ h) (DvA.mono e k)
  | .tup h k => .tup (e _ _ h) (DvA.mono e k)
  | .dK h n k => .dK (h.imp (fun z => e _ _ z) fun ⟨o, z⟩ => ⟨o, e _ _ z⟩) n (DvK.mono e k)
  | .dT h n k => .dT (e _ _ h) n (DvT.mono e k)
  | .ins h c k => .ins (e _ _ h) c (DvF.mono e k)
theorem DvA.mono {cm : CM} {H H' : Hp} (e : Same H H') {v : List V} {d : List PyData} : DvA cm H v d → DvA cm H' v d
  | .nil => .nil
  | .cons h k => .cons (Dv.mono e h) (DvA.mono e k)
theorem DvK.mono {cm : CM} {H H' : Hp} (e : Same H H') {v : List (Key × V)} {d : List (PyData × PyData)} : DvK cm H v d → DvK cm H' v d
  | .nil => .nil
  | .cons h k => .cons (Dv.mono e h) (DvK.mono e k)
theorem DvT.mono {cm : CM} {H H' : Hp} (e : Same H H') {v : List (List Key × V)} {d : List (PyData × PyData)} : DvT cm H v d → DvT cm H' v d
  | .nil => .nil
  | .cons h k => .cons (Dv.mono e h) (DvT.mono e k)
theorem DvF.mono {cm : CM} {H H' : Hp} (e : Same H H') {v : List (Str × V)} {d : List (PyData × PyData)} : DvF cm H v d → DvF cm H' v d
  | .nil => .nil
  | .cons h k => .cons (Dv.mono e h) (DvF.mono e k)
end
mutual
/-- no dict, no instance within -/
def plainD : PyData → Bool
  | .list ds => plainDs ds
  | .tuple ds => plainDs ds
  | .dict _ => false
  | _ => true
def plainDs : List PyData → Bool
  | [] => true
  | d :: ds => plainD d && plainDs ds
end
mutual
theorem Dv.dd {cm : CM} {H : Hp} : ∀ {d : PyData} {v : V}, plainD d = true → Dv cm H v d → Dd H v d
  | .none, _, _, h => by cases h; exact .non
  | .bool _, _, _, h => by cases h; exact .bl _
  | .int _, _, _, h => by cases h; exact .int _
  | .str _, _, _, h => by cases h; exact .str _
  | .list ds, _, p, h => by
    cases h with
    | lst h1 h2 => exact .lst h1 (DvA.dd (by simpa only [plainD] using p) h2)
  | .tuple ds, _, p, h => by
    cases h with
    | tup h1 h2 => exact .tup h1 (DvA.dd (by simpa only [plainD] using p) h2)
  | .dict _, _, p, _ => by simp [plainD] at p
theorem DvA.dd {cm : CM} {H : Hp} : ∀ {ds : List PyData} {vs : List V}, plainDs ds = true → DvA cm H vs ds → DdAll H vs ds
  | [], _, _, h => by cases h; exact .nil
  | d :: ds, _, p, h => by
    simp only [plainDs, Bool.and_eq_true] at p
    cases h with
    | cons h1 h2 => exact .cons (Dv.dd p.1 h1) (DvA.dd p.2 h2)
end
mutual
theorem dd_dv {cm : CM} {H : Hp} : ∀ {d : PyData} {v : V}, Dd H v d → Dv cm H v d
  | .none, _, h => by cases h; exact .non
  | .bool _, _, h => by cases h; exact .bl _
  | .int _, _, h => by cases h; exact .int _
  | .str _, _, h => by cases h; exact .str _
  | .list ds, _, h => by
    cases h with
    | lst h1 h2 => exact .lst h1 (ddAll_dv h2)
  | .tuple ds, _, h => by
    cases h with
    | tup h1 h2 => exact .tup h1 (ddAll_dv h2)
  | .dict _, _, h => by cases h
theorem ddAll_dv {cm : CM} {H : Hp} : ∀ {ds : List PyData} {vs : List V}, DdAll H vs ds → DvA cm H vs ds
  | [], _, h => by cases h; exact .nil
  | _ :: _, _, h => by
    cases h with
    | cons h1 h2 => exact .cons (dd_dv h1) (ddAll_dv h2)
end
section
variable {cm : CM} {H : Hp}
theorem DvA.length : ∀ {ds : List PyData} {vs : List V}, DvA cm H vs ds → vs.length = ds.length
  | [], _, h => by cases h; rfl
  | _ :: _, _, h => by
    cases h with
    | cons h1 h2 => exact congrArg (· + 1) (DvA.length h2)
theorem DvA.get : ∀ {ds : List PyData} {vs : List V} {i : Nat} {v : V}, DvA cm H vs ds → vs[i]? = some v → ∃ d, ds[i]? = some d ∧ Dv cm H v d
  | [], _, i, v, h, e => by cases h; simp at e
  | d :: ds, _, 0, v, h, e => by
    cases h with
    | cons h1 h2 =>
      simp at e
      subst e
      exact ⟨d, rfl, h1⟩
  | d :: ds, _, i + 1, v, h, e => by
    cases h with
    | cons h1 h2 =>
      simp at e
      obtain ⟨d', q1, q2⟩ := DvA.get h2 e
      exact ⟨d', by simpa using q1, q2⟩
theorem DvA.get' {ds : List PyData} {vs : List V} {i : Nat} {d : PyData} (h : DvA cm H vs ds) (e : ds[i]? = some d) : ∃ v, vs[i]? = some v ∧ Dv cm H v d := by
  have hl := h.length
  obtain ⟨hi, _⟩ := List.getElem?_eq_some_iff.mp e
  have hv : vs[i]? = some vs[i] := List.getElem?_eq_getElem (by omega)
  obtain ⟨d', q1, q2⟩ := h.get hv
  rw [e] at q1
  cases q1
  exact ⟨_, hv, q2⟩
theorem DvA.append : ∀ {ds es : List PyData} {vs ws : List V}, DvA cm H vs ds → DvA cm H ws es → DvA cm H (vs ++ ws) (ds ++ es)
  | [], _, _, _, h, k => by cases h; exact k
  | _ :: _, _, _, _, h, k => by
    cases h with
    | cons h1 h2 => exact .cons h1 (DvA.append h2 k)
theorem DvA.take : ∀ {ds : List PyData} {vs : List V} (n : Nat), DvA cm H vs ds → DvA cm H (vs.take n) (ds.take n)
  | _, _, 0, _ => .nil
  | [], _, n + 1, h => by cases h; exact .nil
  | _ :: _, _, n + 1, h => by
    cases h with
    | cons h1 h2 => exact .cons h1 (DvA.take n h2)
theorem DvA.drop : ∀ {ds : List PyData} {vs : List V} (n : Nat), DvA cm H vs ds → DvA cm H (vs.drop n) (ds.drop n)
  | _, _, 0, h => h
  | [], _, n + 1, h => by cases h; exact .nil
  | _ :: _, _, n + 1, h => by
    cases h with
    | cons h1 h2 => exact DvA.drop n h2
theorem DvA.rev : ∀ {ds : List PyData} {vs : List V}, DvA cm H vs ds → DvA cm H vs.reverse ds.reverse
  | [], _, h => by cases h; exact .nil
  | d :: ds, _, h => by
    cases h with
    | cons h1 h2 =>
      rw [List.reverse_cons, List.reverse_cons]
      exact (DvA.rev h2).append (.cons h1 .nil)
theorem DvA.set : ∀ {ds : List PyData} {vs : List V} {v : V} {d : PyData} (i : Nat), Dv cm H v d → DvA cm H vs ds → DvA cm H (vs.set i v) (ds.set i d)
  | [], _, _, _, i, _, h => by cases h; exact .nil
  | _ :: _, _, _, _, 0, k, h => by
    cases h with
    | cons h1 h2 => exact .cons k h2
  | _ :: _, _, _, _, i + 1, k, h => by
    cases h with
    | cons h1 h2 => exact .cons h1 (DvA.set i k h2)
theorem DvA.ints : ∀ (ns : List Int), DvA cm H (ns.map V.int) (ns.map PyData.int)
  | [] => .nil
  | n :: ns => .cons (.int n) (DvA.ints ns)
end
end Sm

set_option maxHeartbeats 4000000
namespace Sm
open PySem PySem.Spec PyProof.Rows L2 Lf

/-! ## what a program does, without a heap -/
/-- an error: its class, its fields -/
abbrev Exn := Str × List (PyData × PyData)
/-- cells: lists that a callee may write -/
abbrev Sto := List (List PyData)
inductive R (α : Type) where
  | ok (a : α) (S : Sto)
  | er (e : Exn) (S : Sto)
  | no
abbrev M (α : Type) := Sto → R α
@[reducible] def M.pure {α : Type} (a : α) : M α := fun S => .ok a S
def R.bind {α β : Type} (r : R α) (g : α → M β) : R β := match r with
  | .ok a S => g a S
  | .er e S => .er e S
  | .no => .no
@[reducible] def M.bind {α β : Type} (m : M α) (g : α → M β) : M β := fun S => (m S).bind g
/-- a value by a name: data, a cell, an own list -/
inductive Vl where
  | d (x : PyData)
  | c (n : Nat)
  | o (ds : List PyData)
  | m (t : Bool) (ps : List (PyData × PyData))
abbrev Env := List (Option Vl)
abbrev Ex := Env → M Vl
abbrev Exs := Env → M (List Vl)
inductive Out where
  | nx | rt (x : Vl) | bk | ct | er (e : Exn)
/-- a statement: how it ends, the names, the cells; none: not known -/
abbrev Sx := Env → Sto → Option (Out × Env × Sto)
abbrev Fn := List Vl → M Vl

/-! ## how it stands in a heap -/
structure Wd (cm : CM) (A : List Addr) (S : Sto) (D : Hp) (F : List (Addr × HO)) (H : Hp) : Prop where
  sub : Same D H
  frs : ∀ p ∈ F, H p.1 = some p.2 ∧ D p.1 = none ∧ p.1 ∉ A
  ndF : (F.map (·.1)).Nodup
  cel : ∀ (n : Nat) (ds : List PyData), S[n]? = some ds → ∃ a xs, A[n]? = some a ∧ H a = some (.lst xs) ∧ DvA cm D xs ds
  out : ∀ a ∈ A, D a = none
  ndA : A.Nodup
  len : A.length = S.length
/-- a dict of its own: keys that are scalars, or (t) tuples of such -/
def MapH (cm : CM) (D : Hp) : Bool → HO → List (PyData × PyData) → Prop
  | false, o, ps => ∃ kvs, o = .dK kvs ∧ (kvs.map (·.1)).Nodup ∧ DvK cm D kvs ps
  | true, o, ps => ∃ kvs, o = .dT kvs ∧ (kvs.map (·.1)).Nodup ∧ DvT cm D kvs ps
theorem MapH.mono {cm : CM} {D D' : Hp} (s : Same D D') {t : Bool} {o : HO} {ps : List (PyData × PyData)} (h : MapH cm D t o ps) : MapH cm D' t o ps := by
  cases t with
  | false => obtain ⟨kvs, h1, h2, h3⟩ := h; exact ⟨kvs, h1, h2, h3.mono s⟩
  | true => obtain ⟨kvs, h1, h2, h3⟩ := h; exact ⟨kvs, h1, h2, h3.mono s⟩
/-- a value by what the heap has -/
def VR (cm : CM) (A : List Addr) (D : Hp) (Ow : List (Addr × HO)) : Vl → V → Prop
  | .d x, v => Dv cm D v x
  | .c n, v => ∃ a, A[n]? = some a ∧ v = .ref a
  | .o ds, v => ∃ a xs, v = .ref a ∧ (a, HO.lst xs) ∈ Ow ∧ DvA cm D xs ds
  | .m t ps, v => ∃ a o, v = .ref a ∧ (a, o) ∈ Ow ∧ MapH cm D t o ps
def isOwn : Option (Option Vl) → Bool
  | some (some (.o _)) => true
  | some (some (.m _ _)) => true
  | _ => false
structure Er (cm : CM) (A : List Addr) (D : Hp) (Ow : List (Addr × HO)) (ρ : Env) (σ : L2.St) : Prop where
  len : ρ.length = σ.length
  at' : ∀ (i : Nat) (x : Vl), ρ[i]? = some (some x) → ∃ v, σ[i]? = some (some v) ∧ VR cm A D Ow x v
  ne : ∀ (i j : Nat) (a : Addr), i ≠ j → isOwn ρ[i]? = true → isOwn ρ[j]? = true → σ[i]? = some (some (.ref a)) → σ[j]? = some (some (.ref a)) → False
/-- the error e flies: its class, its dict -/
def XR (cm : CM) (D H : Hp) (e : Exn) (cl : Value) (dd : Option Addr) : Prop :=
  ∃ C, cm e.1 C ∧ cl = .ref C ∧ ((e.2 = [] ∧ dd = none) ∨ ∃ d fs, dd = some d ∧ H d = some (.xd fs) ∧ DvF cm D fs e.2)
def fin {α : Type} (cm : CM) (A : List Addr) (F : List (Addr × HO)) (D : Hp) (r : R α) (okP : α → Sto → Hp → Hp → Prop) (erP : Exn → Sto → Hp → Hp → Prop) : Prop := match r with
  | .ok x S' => ∀ D' H', Wd cm A S' D' F H' → Same D D' → okP x S' D' H'
  | .er e S' => ∀ D' H', Wd cm A S' D' F H' → Same D D' → erP e S' D' H'
  | .no => False
/-- a state -/
structure Pk where
  A : List Addr
  S : Sto
  D : Hp
  Ow : List (Addr × HO)
  Fr : List (Addr × HO)
  ρ : Env
structure Pk.Ok (cm : CM) (p : Pk) (σ : L2.St) (H : Hp) : Prop where
  wd : Wd cm p.A p.S p.D (p.Ow ++ p.Fr) H
  er : Er cm p.A p.D p.Ow p.ρ σ
def Pk.fin {α : Type} (cm : CM) (p : Pk) (r : R α) (okP : α → Sto → Hp → Hp → Prop) (erP : Exn → Sto → Hp → Hp → Prop) : Prop := Sm.fin cm p.A (p.Ow ++ p.Fr) p.D r okP erP
def erW (cm : CM) (W : WX) (σ : L2.St) : Exn → Sto → Hp → Hp → Prop := fun e _ D' H' => ∀ cl dd, XR cm D' H' e cl dd → W cl dd σ H'
def tE (cm : CM) (W : WX) (f : Ex) : TE := fun σ H Q => ∃ p : Pk, p.Ok cm σ H ∧ p.fin cm (f p.ρ p.S) (fun x _ D' H' => ∀ v, VR cm p.A D' p.Ow x v → Q v H') (erW cm W σ)
def VRs (cm : CM) (A : List Addr) (D : Hp) (Ow : List (Addr × HO)) : List Vl → List V → Prop := Paired (VR cm A D Ow)
def tA (cm : CM) (W : WX) (f : Exs) : TA := fun σ H Q => ∃ p : Pk, p.Ok cm σ H ∧ p.fin cm (f p.ρ p.S) (fun x _ D' H' => ∀ v, VRs cm p.A D' p.Ow x v → Q v H') (erW cm W σ)
/-- a test's end -/
def tT (cm : CM) (W : WX) (f : Env → M Bool) : TT := fun σ H Q => ∃ p : Pk, p.Ok cm σ H ∧ p.fin cm (f p.ρ p.S) (fun b _ D' H' => Q b H') (erW cm W σ)
def outP (cm : CM) (W : WX) (Ds : Ends) (o : Out) (q : Pk) (σ' : L2.St) (H' : Hp) : Prop := match o with
  | .nx => Ds.nx σ' H'
  | .bk => Ds.bk σ' H'
  | .ct => Ds.ct σ' H'
  | .rt x => ∀ v, VR cm q.A q.D q.Ow x v → Ds.rt v H'
  | .er e => ∀ cl dd, XR cm q.D H' e cl dd → W cl dd σ' H'
def finS (cm : CM) (p : Pk) (r : Option (Out × Env × Sto)) (P : Out → Pk → L2.St → Hp → Prop) : Prop := match r with
  | some (o, ρ', S') => ∀ D' Ow' σ' H', Pk.Ok cm ⟨p.A, S', D', Ow', p.Fr, ρ'⟩ σ' H' → Same p.D D' → P o ⟨p.A, S', D', Ow', p.Fr, ρ'⟩ σ' H'
  | none => False
def tS (cm : CM) (W : WX) (f : Sx) : TS := fun Ds σ H => ∃ p : Pk, p.Ok cm σ H ∧ finS cm p (f p.ρ p.S) (fun o q σ' H' => outP cm W Ds o q σ' H')

/-! ## weakening, following -/
section
variable {cm : CM} {A : List Addr} {S : Sto} {D D' : Hp} {F Ow : List (Addr × HO)} {H : Hp} {ρ : Env} {σ : L2.St} {x : Vl} {v : V}
theorem VR.mono (s : Same D D') (h : VR cm A D Ow x v) : VR cm A D' Ow x v := by
  cases x with
  | d x => exact Dv.mono s h
  | c n => exact h
  | o ds =>
    obtain ⟨a, xs, h1, h2, h3⟩ := h
    exact ⟨a, xs, h1, h2, h3.mono s⟩
  | m t ps =>
    obtain ⟨a, o, h1, h2, h3⟩ := h
    exact ⟨a, o, h1, h2, h3.mono s⟩
theorem Er.mono (s : Same D D') (h : Er cm A D Ow ρ σ) : Er cm A D' Ow ρ σ :=
  ⟨h.len, fun i x e => let ⟨v, h1, h2⟩ := h.at' i x e; ⟨v, h1, h2.mono s⟩, h.ne⟩
theorem VRs.mono (s : Same D D') : ∀ {xs : List Vl} {vs : List V}, VRs cm A D Ow xs vs → VRs cm A D' Ow xs vs
  | _, _, .nil => .nil
  | _, _, .cons h k => .cons (VR.mono s h) (VRs.mono s k)
variable {α β : Type} {okP okP' : α → Sto → Hp → Hp → Prop} {erP erP' : Exn → Sto → Hp → Hp → Prop} {r : R α}
theorem fin.imp (h : fin cm A F D r okP erP) (k : ∀ x S' D' H', Wd cm A S' D' F H' → Same D D' → okP x S' D' H' → okP' x S' D' H') (k2 : ∀ x S' D' H', Wd cm A S' D' F H' → Same D D' → erP x S' D' H' → erP' x S' D' H') : fin cm A F D r okP' erP' := by
  cases r with
  | ok x S' => exact fun D' H' w s => k _ _ _ _ w s (h D' H' w s)
  | er e S' => exact fun D' H' w s => k2 _ _ _ _ w s (h D' H' w s)
  | no => exact h
theorem fin.bind {m : R α} {g : α → M β} {okP : β → Sto → Hp → Hp → Prop} (h : fin cm A F D (m.bind g) okP erP) : fin cm A F D m (fun x S1 D1 H1 => fin cm A F D1 (g x S1) okP erP) erP := by
  cases m with
  | ok x S1 =>
    intro D1 H1 w1 s1
    have h' : fin cm A F D (g x S1) okP erP := h
    cases e : g x S1 with
    | ok y S2 => rw [e] at h'; exact fun D2 H2 w2 s2 => h' D2 H2 w2 (s1.trans s2)
    | er y S2 => rw [e] at h'; exact fun D2 H2 w2 s2 => h' D2 H2 w2 (s1.trans s2)
    | no => rw [e] at h'; exact h'
  | er e S1 => exact h
  | no => exact h
/-- behind an expression the state stands on -/
theorem Pk.Ok.on {p : Pk} {S' : Sto} (h : p.Ok cm σ H) {H' : Hp} (w : Wd cm p.A S' D' (p.Ow ++ p.Fr) H') (s : Same p.D D') : Pk.Ok cm ⟨p.A, S', D', p.Ow, p.Fr, p.ρ⟩ σ H' := ⟨w, h.er.mono s⟩
end
section
variable {X : Cx}
theorem pe_imp {e : Expr} {t t' : TE} (h : PE X e t) (k : ∀ σ H Q, t' σ H Q → t σ H Q) : PE X e t' := ⟨fun pins s σ H Q I q => h.run pins s σ H Q I (k _ _ _ q)⟩
theorem pt_imp {e : Expr} {t t' : TT} (h : PT X e t) (k : ∀ σ H Q, t' σ H Q → t σ H Q) : PT X e t' := ⟨fun pins s σ H Q I q => h.run pins s σ H Q I (k _ _ _ q)⟩
theorem pa_imp {e : List Expr} {t t' : TA} (h : PA X e t) (k : ∀ σ H Q, t' σ H Q → t σ H Q) : PA X e t' := ⟨fun pos pins s σ H Q I q => h.run pos pins s σ H Q I (k _ _ _ q)⟩
theorem ps_imp {e : Stmt} {t t' : TS} (h : PS X e t) (k : ∀ D σ H, t' D σ H → t D σ H) : PS X e t' := ⟨fun pins s σ H D I q => h.run pins s σ H D I (k _ _ _ q)⟩
theorem pss_imp {e : List Stmt} {t t' : TS} (h : PSs X e t) (k : ∀ D σ H, t' D σ H → t D σ H) : PSs X e t' := ⟨fun pins s σ H D I q => h.run pins s σ H D I (k _ _ _ q)⟩
end
/-! ## the judgements -/
abbrev GE (X : Cx) (cm : CM) (W : WX) (e : Expr) (f : Ex) : Prop := PE X e (tE cm W f)
abbrev GA (X : Cx) (cm : CM) (W : WX) (e : List Expr) (f : Exs) : Prop := PA X e (tA cm W f)
abbrev GT (X : Cx) (cm : CM) (W : WX) (e : Expr) (f : Env → M Bool) : Prop := PT X e (tT cm W f)
abbrev GS (X : Cx) (cm : CM) (W : WX) (e : Stmt) (f : Sx) : Prop := PS X e (tS cm W f)
abbrev GSs (X : Cx) (cm : CM) (W : WX) (e : List Stmt) (f : Sx) : Prop := PSs X e (tS cm W f)

end Sm

set_option maxHeartbeats 4000000
namespace Sm
open PySem PySem.Spec PyProof.Rows L2 Lf

def big : Nat := 1000000
theorem big_le {n : Nat} (h : n ≤ big) : n < sizeLine := Nat.lt_of_le_of_lt h (by decide)

/-! ## expressions: what they do -/
def eV (i : Nat) : Ex := fun ρ S => match ρ[i]? with
  | some (some x) => .ok x S
  | _ => .no
/-- what is read of a value -/
def view (S : Sto) : Vl → Option PyData
  | .d x => some x
  | .c n => match S[n]? with
    | some ds => some (.list ds)
    | none => none
  | .o ds => some (.list ds)
  | .m _ ps => some (.dict ps)
def lift (r : Option PyData) : M Vl := fun S => match r with
  | some c => .ok (.d c) S
  | none => .no
def eK (x : PyData) : Ex := fun _ S => .ok (.d x) S
def e1 (f : Vl → M Vl) (a : Ex) : Ex := fun ρ S => (a ρ S).bind f
def e2 (f : Vl → Vl → M Vl) (a b : Ex) : Ex := fun ρ S => (a ρ S).bind fun x S1 => (b ρ S1).bind fun y => f x y
def lift1 (f : PyData → Option PyData) (x : Vl) : M Vl := fun S => match view S x with
  | some a => lift (f a) S
  | none => .no
def lift2 (f : PyData → PyData → Option PyData) (x y : Vl) : M Vl := fun S => match view S x, view S y with
  | some a, some b => lift (f a b) S
  | _, _ => .no
def toB : Vl → M Bool
  | .d (.bool b) => fun S => .ok b S
  | _ => fun _ => .no
def eAnd (a b : Ex) : Ex := fun ρ S => (a ρ S).bind fun x S1 => match x with
  | .d (.bool true) => b ρ S1
  | .d (.bool false) => .ok (.d (.bool false)) S1
  | _ => .no
def eOr (a b : Ex) : Ex := fun ρ S => (a ρ S).bind fun x S1 => match x with
  | .d (.bool true) => .ok (.d (.bool true)) S1
  | .d (.bool false) => b ρ S1
  | _ => .no
def eIf (c : Env → M Bool) (a b : Ex) : Ex := fun ρ S => (c ρ S).bind fun x S1 => match x with
  | true => a ρ S1
  | false => b ρ S1
def eTest (a : Ex) : Env → M Bool := fun ρ S => (a ρ S).bind toB
def eNotT (c : Env → M Bool) : Env → M Bool := fun ρ S => (c ρ S).bind fun b S1 => .ok (!b) S1
def asNil : Exs := fun _ S => .ok [] S
def asCons (a : Ex) (r : Exs) : Exs := fun ρ S => (a ρ S).bind fun x S1 => (r ρ S1).bind fun xs S2 => .ok (x :: xs) S2
def eArgs (f : List Vl → M Vl) (r : Exs) : Ex := fun ρ S => (r ρ S).bind f
def datas : List Vl → Option (List PyData)
  | [] => some []
  | .d x :: r => match datas r with
    | some xs => some (x :: xs)
    | none => none
  | _ :: _ => none
def mkTup (xs : List Vl) : M Vl := fun S => match datas xs with
  | some ds => if ds.length ≤ big then .ok (.d (.tuple ds)) S else .no
  | none => .no
def mkLst (xs : List Vl) : M Vl := fun S => match datas xs with
  | some ds => if ds.length ≤ big then .ok (.d (.list ds)) S else .no
  | none => .no
def views (S : Sto) : List Vl → Option (List PyData)
  | [] => some []
  | x :: r => match view S x, views S r with
    | some a, some as => some (a :: as)
    | _, _ => none
/-- a built-in of what it reads -/
def liftA (f : List PyData → Option PyData) (xs : List Vl) : M Vl := fun S => match views S xs with
  | some ds => lift (f ds) S
  | none => .no

/-! ## what is read: data, or a list that is not data yet -/
inductive Dw (cm : CM) (D H : Hp) : V → PyData → Prop
  | d {v : V} {x : PyData} : Dv cm D v x → Dw cm D H v x
  | l {a : Addr} {xs : List V} {ds : List PyData} : H a = some (.lst xs) → DvA cm D xs ds → Dw cm D H (.ref a) (.list ds)
  | m {a : Addr} {t : Bool} {o : HO} {ps : List (PyData × PyData)} : H a = some o → MapH cm D t o ps → Dw cm D H (.ref a) (.dict ps)
def DwA (cm : CM) (D H : Hp) : List V → List PyData → Prop := Paired (Dw cm D H)
section
variable {cm : CM} {D H : Hp} {v : V}
theorem Dw.int {i : Int} (h : Dw cm D H v (.int i)) : v = .int i := by
  cases h with
  | d h => cases h; rfl
theorem Dw.str {x : Str} (h : Dw cm D H v (.str x)) : v = .str x := by
  cases h with
  | d h => cases h; rfl
theorem Dw.bl {b : Bool} (h : Dw cm D H v (.bool b)) : v = .bl b := by
  cases h with
  | d h => cases h; rfl
theorem Dw.non (h : Dw cm D H v .none) : v = .non := by
  cases h with
  | d h => cases h; rfl
theorem Dw.lst (s : Same D H) {ds : List PyData} (h : Dw cm D H v (.list ds)) : ∃ a xs, v = .ref a ∧ H a = some (.lst xs) ∧ DvA cm D xs ds := by
  cases h with
  | d h =>
    cases h with
    | lst h1 h2 => exact ⟨_, _, rfl, s _ _ h1, h2⟩
  | l h1 h2 => exact ⟨_, _, rfl, h1, h2⟩
theorem Dw.tup {ds : List PyData} (h : Dw cm D H v (.tuple ds)) : ∃ a xs, v = .ref a ∧ D a = some (.tup xs) ∧ DvA cm D xs ds := by
  cases h with
  | d h =>
    cases h with
    | tup h1 h2 => exact ⟨_, _, rfl, h1, h2⟩
theorem Dw.inH (s : Same D H) {d : PyData} (h : Dw cm D H v d) : Dv cm H v d := by
  cases h with
  | d h => exact h.mono s
  | l h1 h2 => exact .lst h1 (h2.mono s)
  | @m a t o ps h1 h2 =>
    cases t with
    | false => obtain ⟨kvs, rfl, h3, h4⟩ := h2; exact .dK (.inl h1) h3 (h4.mono s)
    | true => obtain ⟨kvs, rfl, h3, h4⟩ := h2; exact .dT h1 h3 (h4.mono s)
end

/-! ## operators on data -/
def OpF (cm : CM) (r : R2) (f : PyData → PyData → Option PyData) : Prop := ∀ (A : List Addr) (S : Sto) (D : Hp) (F : List (Addr × HO)) (H : Hp) (x y : V) (a b c : PyData) (Q : VK), Wd cm A S D F H → Dw cm D H x a → Dw cm D H y b → f a b = some c →
  (∀ D' H' w, Wd cm A S D' F H' → Same D D' → Dv cm D' w c → Q w H') → r x y H Q
def UnF (cm : CM) (r : V → Hp → VK → Prop) (f : PyData → Option PyData) : Prop := ∀ (A : List Addr) (S : Sto) (D : Hp) (F : List (Addr × HO)) (H : Hp) (x : V) (a c : PyData) (Q : VK), Wd cm A S D F H → Dw cm D H x a → f a = some c →
  (∀ D' H' w, Wd cm A S D' F H' → Same D D' → Dv cm D' w c → Q w H') → r x H Q
def CaF (cm : CM) (r : List V → Hp → VK → Prop) (f : List PyData → Option PyData) : Prop := ∀ (A : List Addr) (S : Sto) (D : Hp) (F : List (Addr × HO)) (H : Hp) (xs : List V) (as : List PyData) (c : PyData) (Q : VK), Wd cm A S D F H → DwA cm D H xs as → f as = some c →
  (∀ D' H' w, Wd cm A S D' F H' → Same D D' → Dv cm D' w c → Q w H') → r xs H Q
theorem opR_or {X : Cx} {f : Value → Value → Sem Value} {r r' : R2} (h : OpR X f r) (h' : OpR X f r') : OpR X f (fun x y H Q => r x y H Q ∨ r' x y H Q) := fun pins s σ H x y v u Q I r1 r2 q => q.elim (h pins s σ H x y v u Q I r1 r2) (h' pins s σ H x y v u Q I r1 r2)
def orF (f g : PyData → PyData → Option PyData) : PyData → PyData → Option PyData := fun a b => match f a b with
  | some c => some c
  | none => g a b
theorem OpF.or {cm : CM} {r r' : R2} {f g : PyData → PyData → Option PyData} (h : OpF cm r f) (h' : OpF cm r' g) : OpF cm (fun x y H Q => r x y H Q ∨ r' x y H Q) (orF f g) := fun A S D F H x y a b c Q w hx hy e q => by
  unfold orF at e
  split at e
  · rename_i c' e'
    cases e
    exact .inl (h A S D F H x y a b _ Q w hx hy e' q)
  · exact .inr (h' A S D F H x y a b c Q w hx hy e q)
/-- a new object that is data -/
theorem Wd.new {cm : CM} {A : List Addr} {S : Sto} {D : Hp} {F : List (Addr × HO)} {H : Hp} (w : Wd cm A S D F H) {p : Addr} (np : H p = none) (o : HO) : Wd cm A S (upd D p o) F (upd H p o) ∧ Same D (upd D p o) := by
  have nd : D p = none := by
    cases e : D p with
    | none => rfl
    | some u => rw [w.sub _ _ e] at np; cases np
  have sD : Same D (upd D p o) := same_new nd o
  have pH : ∀ b u, H b = some u → b ≠ p := fun b u e z => by rw [z, np] at e; cases e
  refine ⟨⟨fun b u e => ?_, fun q hq => ?_, w.ndF, fun n ds e => ?_, fun a ha => ?_, w.ndA, w.len⟩, sD⟩
  · by_cases hb : b = p
    · subst hb
      rw [upd_same] at e ⊢
      exact e
    · rw [upd_ne hb] at e ⊢
      exact w.sub _ _ e
  · obtain ⟨h1, h2, h3⟩ := w.frs q hq
    have hb := pH _ _ h1
    exact ⟨by rw [upd_ne hb]; exact h1, by rw [upd_ne hb]; exact h2, h3⟩
  · obtain ⟨a, xs, h1, h2, h3⟩ := w.cel n ds e
    exact ⟨a, xs, h1, by rw [upd_ne (pH _ _ h2)]; exact h2, h3.mono sD⟩
  · obtain ⟨n, hn⟩ := List.getElem?_of_mem ha
    have hl : n < S.length := by rw [← w.len]; exact (List.getElem?_eq_some_iff.mp hn).1
    obtain ⟨a', xs, h1, h2, h3⟩ := w.cel n S[n] (List.getElem?_eq_getElem hl)
    rw [hn] at h1
    cases h1
    rw [upd_ne (pH _ _ h2)]
    exact w.out a ha
/-- a new object that is no data and stays away -/
theorem Wd.newF {cm : CM} {A : List Addr} {S : Sto} {D : Hp} {F : List (Addr × HO)} {H : Hp} (w : Wd cm A S D F H) {p : Addr} (np : H p = none) (o : HO) : Wd cm A S D ((p, o) :: F) (upd H p o) := by
  have nd : D p = none := by
    cases e : D p with
    | none => rfl
    | some u => rw [w.sub _ _ e] at np; cases np
  have pH : ∀ b u, H b = some u → b ≠ p := fun b u e z => by rw [z, np] at e; cases e
  refine ⟨fun b u e => ?_, fun q hq => ?_, ?_, fun n ds e => ?_, w.out, w.ndA, w.len⟩
  · rw [upd_ne (pH _ _ (w.sub _ _ e))]
    exact w.sub _ _ e
  · rcases List.mem_cons.mp hq with rfl | hq
    · refine ⟨upd_same, nd, fun hA => ?_⟩
      obtain ⟨n, hn⟩ := List.getElem?_of_mem hA
      have hl : n < S.length := by rw [← w.len]; exact (List.getElem?_eq_some_iff.mp hn).1
      obtain ⟨a', xs, h1, h2, h3⟩ := w.cel n S[n] (List.getElem?_eq_getElem hl)
      rw [hn] at h1
      cases h1
      exact pH _ _ h2 rfl
    · obtain ⟨h1, h2, h3⟩ := w.frs q hq
      exact ⟨by rw [upd_ne (pH _ _ h1)]; exact h1, h2, h3⟩
  · rw [List.map_cons, List.nodup_cons]
    refine ⟨fun hm => ?_, w.ndF⟩
    obtain ⟨q, hq, e⟩ := List.mem_map.mp hm
    exact pH _ _ (w.frs q hq).1 e
  · obtain ⟨a, xs, h1, h2, h3⟩ := w.cel n ds e
    exact ⟨a, xs, h1, by rw [upd_ne (pH _ _ h2)]; exact h2, h3⟩
section
variable {cm : CM}
def intOp (g : Int → Int → Option PyData) : PyData → PyData → Option PyData
  | .int i, .int j => g i j
  | _, _ => none
/-- ints in, a scalar out -/
theorem intOp_inv {g : Int → Int → Option PyData} {a b c : PyData} (e : intOp g a b = some c) : ∃ i j, a = .int i ∧ b = .int j ∧ g i j = some c := by
  unfold intOp at e
  split at e
  · exact ⟨_, _, rfl, rfl, e⟩
  · cases e
theorem opF_rI0 {g : Int → Int → V} {f : Int → Int → PyData} (h : ∀ D i j, Dv cm D (g i j) (f i j)) : OpF cm (rI0 g) (intOp fun i j => some (f i j)) := fun A S D F H x y a b c Q w hx hy e q => by
  obtain ⟨i, j, rfl, rfl, e⟩ := intOp_inv e
  cases e
  exact ⟨_, _, hx.int, hy.int, q D H _ w (.refl D) (h D _ _)⟩
theorem opF_rI {C : Int → Int → Prop} {g : Int → Int → V} {f : Int → Int → Option PyData} (h : ∀ D i j c, f i j = some c → C i j ∧ Dv cm D (g i j) c) : OpF cm (rI C g) (intOp f) := fun A S D F H x y a b c Q w hx hy e q => by
  obtain ⟨i, j, rfl, rfl, e⟩ := intOp_inv e
  obtain ⟨h1, h2⟩ := h D _ _ c e
  exact ⟨_, _, hx.int, hy.int, h1, q D H _ w (.refl D) h2⟩
/-- small enough to be multiplied -/
def smallI (i : Int) : Bool := decide (i.natAbs < 2 ^ 4000)
def mulI (i j : Int) : Option PyData := if smallI i && smallI j then some (.int (i * j)) else none
def divI (i j : Int) : Option PyData := if 0 < j && smallI j then some (.int (i / j)) else none
def modI (i j : Int) : Option PyData := if 0 < j then some (.int (i % j)) else none
def powI (i j : Int) : Option PyData := if 0 ≤ j && decide (j ≤ 1000) && decide (i.natAbs < 2 ^ 60) then some (.int (i ^ j.toNat)) else none
def catL : PyData → PyData → Option PyData
  | .list as, .list bs => if as.length + bs.length ≤ big then some (.list (as ++ bs)) else none
  | _, _ => none
def catT : PyData → PyData → Option PyData
  | .tuple as, .tuple bs => if as.length + bs.length ≤ big then some (.tuple (as ++ bs)) else none
  | _, _ => none
def catS : PyData → PyData → Option PyData
  | .str x, .str y => if x.length + y.length ≤ big then some (.str (x ++ y)) else none
  | _, _ => none
def addD : PyData → PyData → Option PyData := orF (intOp fun i j => some (.int (i + j))) (orF catL (orF catT catS))
def subD : PyData → PyData → Option PyData := intOp fun i j => some (.int (i - j))
def mulD : PyData → PyData → Option PyData := intOp mulI
def divD : PyData → PyData → Option PyData := intOp divI
def modD : PyData → PyData → Option PyData := intOp modI
def powD : PyData → PyData → Option PyData := intOp powI
theorem small_of {i : Int} (h : smallI i = true) : i.natAbs < 2 ^ 4000 := of_decide_eq_true h
theorem opF_catL : OpF cm rCat catL := fun A S D F H x y a b c Q w hx hy e q => by
  unfold catL at e
  split at e
  · rename_i as bs
    split at e
    · rename_i hl
      cases e
      obtain ⟨l, xs, rfl, h1, h2⟩ := hx.lst w.sub
      obtain ⟨l', ys, rfl, h3, h4⟩ := hy.lst w.sub
      refine ⟨l, l', xs, ys, rfl, rfl, h1, h3, Nat.le_of_lt (by rw [h2.length, h4.length]; exact big_le hl), fun p np => ?_⟩
      obtain ⟨w', s⟩ := w.new np (.lst (xs ++ ys))
      exact q _ _ _ w' s (.lst upd_same ((h2.mono s).append (h4.mono s)))
    · cases e
  · cases e
theorem opF_catT {K : PySem.W.Frag} : OpF cm (rCatA K) catT := fun A S D F H x y a b c Q w hx hy e q => by
  unfold catT at e
  split at e
  · rename_i as bs
    split at e
    · rename_i hl
      cases e
      obtain ⟨l, xs, rfl, h1, h2⟩ := hx.tup
      obtain ⟨l', ys, rfl, h3, h4⟩ := hy.tup
      refine ⟨l, l', xs, ys, rfl, rfl, .of (w.sub _ _ h1), .of (w.sub _ _ h3), Nat.le_of_lt (by rw [h2.length, h4.length]; exact big_le hl), fun e => ?_, fun _ e => ?_, fun _ _ p np => ?_⟩
      · subst e
        cases h2
        exact q D H _ w (.refl D) (.tup h3 h4)
      · subst e
        cases h4
        rw [List.append_nil] at q
        exact q D H _ w (.refl D) (.tup h1 h2)
      · obtain ⟨w', s⟩ := w.new np (.tup (xs ++ ys))
        exact q _ _ _ w' s (.tup upd_same ((h2.mono s).append (h4.mono s)))
    · cases e
  · cases e
def rCatS : R2 := fun x y H Q => ∃ i j, x = .str i ∧ y = .str j ∧ i.length + j.length ≤ sizeLine ∧ Q (.str (i ++ j)) H
theorem opF_catS : OpF cm rCatS catS := fun A S D F H x y a b c Q w hx hy e q => by
  unfold catS at e
  split at e
  · rename_i as bs
    split at e
    · rename_i hl
      cases e
      exact ⟨_, _, hx.str, hy.str, Nat.le_of_lt (big_le hl), q D H _ w (.refl D) (.str _)⟩
    · cases e
  · cases e
end
section
variable {X : Cx} {cm : CM}
/-- an operator: what it is in the model, what it does on data -/
def Op2 (X : Cx) (cm : CM) (op : Value → Value → Sem Value) (f : PyData → PyData → Option PyData) : Prop := ∃ r, OpR X op r ∧ OpF cm r f
theorem o_add : Op2 X cm (binaryOp .Add) addD := ⟨_, opR_or op_add (opR_or op_cat (opR_or op_catA (show OpR X _ rCatS from op_add_str))), (opF_rI0 fun D i j => .int _).or (opF_catL.or (opF_catT.or opF_catS))⟩
theorem o_sub : Op2 X cm (binaryOp .Sub) subD := ⟨_, op_sub, opF_rI0 fun D i j => .int _⟩
theorem o_mul : Op2 X cm (binaryOp .Mult) mulD := ⟨_, op_mulW, opF_rI fun D i j c e => by
  unfold mulI at e
  split at e
  · rename_i h
    rw [Bool.and_eq_true] at h
    cases e
    exact ⟨wide_mul (small_of h.1) (small_of h.2) (by decide) (by decide) (by decide), .int _⟩
  · cases e⟩
theorem o_div : Op2 X cm (binaryOp .FloorDiv) divD := ⟨_, op_fdivW, opF_rI fun D i j c e => by
  unfold divI at e
  split at e
  · rename_i h
    simp only [Bool.and_eq_true, decide_eq_true_eq] at h
    cases e
    exact ⟨wide_div h.1 (small_of h.2) (by decide) (by decide), .int _⟩
  · cases e⟩
theorem o_mod : Op2 X cm (binaryOp .Mod) modD := ⟨_, op_mod, opF_rI fun D i j c e => by
  unfold modI at e
  split at e
  · rename_i h
    cases e
    exact ⟨h, .int _⟩
  · cases e⟩
theorem o_pow : Op2 X cm (binaryOp .Pow) powD := ⟨_, op_pow, opF_rI fun D i j c e => by
  unfold powI at e
  split at e
  · rename_i h
    simp only [Bool.and_eq_true, decide_eq_true_eq] at h
    cases e
    exact ⟨⟨h.1.1, by omega, by have := h.2; exact Nat.lt_trans this (by decide)⟩, .int _⟩
  · cases e⟩
end
end Sm

set_option maxHeartbeats 4000000
namespace Sm
open PySem PySem.Spec PyProof.Rows L2 Lf

/-! ## what a value is in the heap -/
section
variable {cm : CM} {A : List Addr} {S : Sto} {D : Hp} {F Ow Fr : List (Addr × HO)} {H : Hp} {x y : Vl} {v u : V}
theorem view_dw (w : Wd cm A S D (Ow ++ Fr) H) {a : PyData} (e : view S x = some a) (r : VR cm A D Ow x v) : Dw cm D H v a := by
  cases x with
  | d x => cases e; exact .d r
  | c n =>
    unfold view at e
    try dsimp only at e
    cases hs : S[n]? with
    | none => rw [hs] at e; cases e
    | some ds =>
      rw [hs] at e
      cases e
      obtain ⟨a, h1, rfl⟩ := r
      obtain ⟨a', xs, h2, h3, h4⟩ := w.cel n ds hs
      rw [h1] at h2
      cases h2
      exact .l h3 h4
  | o ds =>
    cases e
    obtain ⟨a, xs, rfl, h1, h2⟩ := r
    exact .l (w.frs _ (List.mem_append_left _ h1)).1 h2
  | m t ps =>
    cases e
    obtain ⟨a, o, rfl, h1, h2⟩ := r
    exact .m (w.frs _ (List.mem_append_left _ h1)).1 h2
theorem views_dw (w : Wd cm A S D (Ow ++ Fr) H) : ∀ {xs : List Vl} {vs : List V} {as : List PyData}, views S xs = some as → VRs cm A D Ow xs vs → DwA cm D H vs as
  | [], _, _, e, h => by cases h; cases e; exact .nil
  | x :: xs, _, _, e, h => by
    cases h with
    | cons h1 h2 =>
      unfold views at e
      cases e1 : view S x with
      | none => rw [e1] at e; cases e
      | some a =>
        rw [e1] at e
        try dsimp only at e
        cases e2 : views S xs with
        | none => rw [e2] at e; cases e
        | some as =>
          rw [e2] at e
          cases e
          exact .cons (view_dw w e1 h1) (views_dw w e2 h2)
variable {α : Type} {okP : Vl → Sto → Hp → Hp → Prop} {erP : Exn → Sto → Hp → Hp → Prop}
theorem lift_inv {r : Option PyData} (h : fin cm A F D (lift r S) okP erP) : ∃ c, r = some c ∧ ∀ D' H', Wd cm A S D' F H' → Same D D' → okP (.d c) S D' H' := by
  cases r with
  | none => exact absurd h id
  | some c => exact ⟨c, rfl, h⟩
theorem lift1_inv {f : PyData → Option PyData} (h : fin cm A F D (lift1 f x S) okP erP) : ∃ a c, view S x = some a ∧ f a = some c ∧ ∀ D' H', Wd cm A S D' F H' → Same D D' → okP (.d c) S D' H' := by
  unfold lift1 at h
  cases e : view S x with
  | none => rw [e] at h; exact absurd h id
  | some a =>
    rw [e] at h
    obtain ⟨c, h1, h2⟩ := lift_inv h
    exact ⟨a, c, rfl, h1, h2⟩
theorem lift2_inv {f : PyData → PyData → Option PyData} (h : fin cm A F D (lift2 f x y S) okP erP) : ∃ a b c, view S x = some a ∧ view S y = some b ∧ f a b = some c ∧ ∀ D' H', Wd cm A S D' F H' → Same D D' → okP (.d c) S D' H' := by
  unfold lift2 at h
  cases e : view S x with
  | none => rw [e] at h; exact absurd h id
  | some a =>
    cases e2 : view S y with
    | none => rw [e, e2] at h; exact absurd h id
    | some b =>
      rw [e, e2] at h
      obtain ⟨c, h1, h2⟩ := lift_inv h
      exact ⟨a, b, c, rfl, rfl, h1, h2⟩
theorem liftA_inv {f : List PyData → Option PyData} {xs : List Vl} (h : fin cm A F D (liftA f xs S) okP erP) : ∃ as c, views S xs = some as ∧ f as = some c ∧ ∀ D' H', Wd cm A S D' F H' → Same D D' → okP (.d c) S D' H' := by
  unfold liftA at h
  cases e : views S xs with
  | none => rw [e] at h; exact absurd h id
  | some a =>
    rw [e] at h
    obtain ⟨c, h1, h2⟩ := lift_inv h
    exact ⟨a, c, rfl, h1, h2⟩
end
theorem same_self (D : Hp) : Same D D := .refl D

/-! ## expressions -/
section
variable {X : Cx} {cm : CM} {W : WX}
theorem g_var (i : Nat) {x : Str} {pos : Pos} (hN : X.N[i]? = some x := by rfl) (hv : Vis X.env.scope x := by first | exact Or.inl rfl | exact Or.inr (Or.inl rfl) | exact Or.inr (Or.inr rfl)) (hd : (x == ("__debug__" : Str)) = false := by decide)
    (hcd : (x == ("__classdict__" : Str)) = false := by decide) : GE X cm W (.Name x pos) (eV i) :=
  pe_imp (pe_var hN hv hd hcd) fun σ H Q ⟨p, ok, h⟩ => by
    unfold eV at h
    cases e : p.ρ[i]? with
    | none => rw [e] at h; exact absurd h id
    | some y =>
      cases y with
      | none => rw [e] at h; exact absurd h id
      | some x =>
        rw [e] at h
        obtain ⟨v, h1, h2⟩ := ok.er.at' i x e
        exact ⟨v, h1, h p.D H ok.wd (.refl _) v h2⟩
theorem g_const {e : Expr} {c : V} {x : PyData} (h : PE X e (tC c)) (hx : ∀ D, Dv cm D c x) : GE X cm W e (eK x) := pe_imp h fun σ H Q ⟨p, ok, h⟩ => h p.D H ok.wd (.refl _) c (hx _)
theorem g_int {i : Int} {j pos} : GE X cm W (.Constant (.int i) j pos) (eK (.int i)) := g_const pe_int fun _ => .int i
theorem g_str {i : Str} {j pos} : GE X cm W (.Constant (.str i) j pos) (eK (.str i)) := g_const pe_str fun _ => .str i
theorem g_bl {b : Bool} {j pos} : GE X cm W (.Constant (.bool b) j pos) (eK (.bool b)) := g_const pe_bl fun _ => .bl b
theorem g_non {j pos} : GE X cm W (.Constant .none j pos) (eK .none) := g_const pe_non fun _ => .non
variable {a b c : Expr} {fa fb fc : Ex} {pos : Pos}
theorem g_op {op : Operator} {f : PyData → PyData → Option PyData} (o : Op2 X cm (binaryOp op) f) (ha : GE X cm W a fa) (hb : GE X cm W b fb) : GE X cm W (.BinOp a op b pos) (e2 (lift2 f) fa fb) := by
  obtain ⟨r, ho, hf⟩ := o
  refine pe_imp (pe_op ho ha hb) fun σ H Q ⟨p, ok, h⟩ => ⟨p, ok, (fin.bind h).imp (fun x S1 D1 H1 w s k v r1 => ?_) fun _ _ _ _ _ _ z => z⟩
  refine ⟨⟨p.A, S1, D1, p.Ow, p.Fr, p.ρ⟩, ok.on w s, (fin.bind k).imp (fun y S2 D2 H2 w2 s2 k2 u r2 => ?_) fun _ _ _ _ _ _ z => z⟩
  obtain ⟨a, b, c, h1, h2, h3, h4⟩ := lift2_inv k2
  exact hf _ _ _ _ _ _ _ _ _ _ _ w2 (view_dw w2 h1 (r1.mono s2)) (view_dw w2 h2 r2) h3 fun D' H' v w' s' hv => h4 D' H' w' s' v hv
theorem g_cmp {op : CmpOp} {f : PyData → PyData → Option PyData} (o : Op2 X cm (compareOp op) f) (ha : GE X cm W a fa) (hb : GE X cm W b fb) (hm : behindInMarks op b = false) : GE X cm W (.Compare a [op] [b] pos) (e2 (lift2 f) fa fb) := by
  obtain ⟨r, ho, hf⟩ := o
  refine pe_imp (pe_cmpR ho ha hb hm) fun σ H Q ⟨p, ok, h⟩ => ⟨p, ok, (fin.bind h).imp (fun x S1 D1 H1 w s k v r1 => ?_) fun _ _ _ _ _ _ z => z⟩
  refine ⟨⟨p.A, S1, D1, p.Ow, p.Fr, p.ρ⟩, ok.on w s, (fin.bind k).imp (fun y S2 D2 H2 w2 s2 k2 u r2 => ?_) fun _ _ _ _ _ _ z => z⟩
  obtain ⟨a, b, c, h1, h2, h3, h4⟩ := lift2_inv k2
  exact hf _ _ _ _ _ _ _ _ _ _ _ w2 (view_dw w2 h1 (r1.mono s2)) (view_dw w2 h2 r2) h3 fun D' H' v w' s' hv => h4 D' H' w' s' v hv
theorem toB_inv {cm : CM} {A : List Addr} {S : Sto} {D : Hp} {F : List (Addr × HO)} {x : Vl} {okP : Bool → Sto → Hp → Hp → Prop} {erP : Exn → Sto → Hp → Hp → Prop} (h : fin cm A F D (toB x S) okP erP) : ∃ b, x = .d (.bool b) ∧ ∀ D' H', Wd cm A S D' F H' → Same D D' → okP b S D' H' := by
  unfold toB at h
  split at h
  · exact ⟨_, rfl, h⟩
  · exact absurd h id
theorem gt_cmp {op : CmpOp} {f : PyData → PyData → Option PyData} (o : Op2 X cm (compareOp op) f) (ha : GE X cm W a fa) (hb : GE X cm W b fb) (hm : behindInMarks op b = false) : GT X cm W (.Compare a [op] [b] pos) (eTest (e2 (lift2 f) fa fb)) := by
  obtain ⟨r, ho, hf⟩ := o
  refine pt_imp (pt_cmpR ho ha hb hm) fun σ H Q ⟨p, ok, h⟩ => ⟨p, ok, (fin.bind (fin.bind h)).imp (fun x S1 D1 H1 w s k v r1 => ?_) fun _ _ _ _ _ _ z => z⟩
  refine ⟨⟨p.A, S1, D1, p.Ow, p.Fr, p.ρ⟩, ok.on w s, (fin.bind k).imp (fun y S2 D2 H2 w2 s2 k2 u r2 => ?_) fun _ _ _ _ _ _ z => z⟩
  obtain ⟨a, b, c, h1, h2, h3, h4⟩ := lift2_inv k2
  refine hf _ _ _ _ _ _ _ _ _ _ _ w2 (view_dw w2 h1 (r1.mono s2)) (view_dw w2 h2 r2) h3 fun D' H' v w' s' hv => ?_
  obtain ⟨t, e, h5⟩ := toB_inv (h4 D' H' w' s')
  cases e
  cases hv
  exact ⟨t, rfl, h5 D' H' w' (.refl _)⟩
/-- a value as a test -/
theorem gt_val {e : Expr} {f : Ex} (h : GE X cm W e f) (he : ∀ whole, isTrue e X.env whole = (do let v ← whole; standAt e.pos; holding [v] (truthy v)) := by intro _; rfl) : GT X cm W e (eTest f) :=
  pt_imp (pt_val h he) fun σ H Q ⟨p, ok, h⟩ => ⟨p, ok, (fin.bind h).imp (fun x S1 D1 H1 w s k v r1 => by
    obtain ⟨t, e, h5⟩ := toB_inv k
    cases e
    cases r1
    exact ⟨t, rfl, h5 D1 H1 w (.refl _)⟩) fun _ _ _ _ _ _ z => z⟩
theorem gt_not {f : Env → M Bool} (h : GT X cm W a f) : GT X cm W (.UnaryOp .Not a pos) (eNotT f) :=
  pt_imp (pt_not h) fun σ H Q ⟨p, ok, h⟩ => ⟨p, ok, (fin.bind h).imp (fun x S1 D1 H1 w s k => k D1 H1 w (.refl _)) fun _ _ _ _ _ _ z => z⟩
theorem eAnd_fin {p : Pk} {σ : L2.St} {H : Hp} {okP : Vl → Sto → Hp → Hp → Prop} {erP : Exn → Sto → Hp → Hp → Prop} (h : p.fin cm (eAnd fa fb p.ρ p.S) okP erP) :
    p.fin cm (fa p.ρ p.S) (fun x S1 D1 H1 => ∃ b, x = .d (.bool b) ∧ (b = true → fin cm p.A (p.Ow ++ p.Fr) D1 (fb p.ρ S1) okP erP) ∧ (b = false → ∀ D' H', Wd cm p.A S1 D' (p.Ow ++ p.Fr) H' → Same D1 D' → okP (.d (.bool false)) S1 D' H')) erP :=
  (fin.bind h).imp (fun x S1 D1 H1 w s k => by
    try dsimp only at k
    split at k
    · exact ⟨true, rfl, fun _ => k, fun z => nomatch z⟩
    · exact ⟨false, rfl, (fun z => nomatch z), fun _ => k⟩
    · exact absurd k id) fun _ _ _ _ _ _ z => z
theorem eOr_fin {p : Pk} {σ : L2.St} {H : Hp} {okP : Vl → Sto → Hp → Hp → Prop} {erP : Exn → Sto → Hp → Hp → Prop} (h : p.fin cm (eOr fa fb p.ρ p.S) okP erP) :
    p.fin cm (fa p.ρ p.S) (fun x S1 D1 H1 => ∃ b, x = .d (.bool b) ∧ (b = false → fin cm p.A (p.Ow ++ p.Fr) D1 (fb p.ρ S1) okP erP) ∧ (b = true → ∀ D' H', Wd cm p.A S1 D' (p.Ow ++ p.Fr) H' → Same D1 D' → okP (.d (.bool true)) S1 D' H')) erP :=
  (fin.bind h).imp (fun x S1 D1 H1 w s k => by
    try dsimp only at k
    split at k
    · exact ⟨true, rfl, (fun z => nomatch z), fun _ => k⟩
    · exact ⟨false, rfl, (fun _ => k), fun z => nomatch z⟩
    · exact absurd k id) fun _ _ _ _ _ _ z => z
theorem g_one {op} (h : GE X cm W a fa) : GE X cm W (.BoolOp op [a] pos) fa := pe_one h
theorem g_and {rest : List Expr} (ha : GE X cm W a fa) (hb : GE X cm W (.BoolOp .And (b :: rest) pos) fb) : GE X cm W (.BoolOp .And (a :: b :: rest) pos) (eAnd fa fb) :=
  pe_imp (pe_and ha hb) fun σ H Q ⟨p, ok, h⟩ => ⟨p, ok, (eAnd_fin (σ := σ) (H := H) h).imp (fun x S1 D1 H1 w s k v r1 => by
    obtain ⟨t, rfl, k1, k2⟩ := k
    cases r1
    refine ⟨t, rfl, ?_⟩
    cases t with
    | true => exact ⟨⟨p.A, S1, D1, p.Ow, p.Fr, p.ρ⟩, ok.on w s, k1 rfl⟩
    | false => exact k2 rfl D1 H1 w (.refl _) _ (.bl false)) fun _ _ _ _ _ _ z => z⟩
theorem g_or {rest : List Expr} (ha : GE X cm W a fa) (hb : GE X cm W (.BoolOp .Or (b :: rest) pos) fb) : GE X cm W (.BoolOp .Or (a :: b :: rest) pos) (eOr fa fb) :=
  pe_imp (pe_or ha hb) fun σ H Q ⟨p, ok, h⟩ => ⟨p, ok, (eOr_fin (σ := σ) (H := H) h).imp (fun x S1 D1 H1 w s k v r1 => by
    obtain ⟨t, rfl, k1, k2⟩ := k
    cases r1
    refine ⟨t, rfl, ?_⟩
    cases t with
    | false => exact ⟨⟨p.A, S1, D1, p.Ow, p.Fr, p.ρ⟩, ok.on w s, k1 rfl⟩
    | true => exact k2 rfl D1 H1 w (.refl _) _ (.bl true)) fun _ _ _ _ _ _ z => z⟩
def eNot (f : Ex) : Ex := fun ρ S => (f ρ S).bind fun x S1 => match x with
  | .d (.bool b) => .ok (.d (.bool !b)) S1
  | _ => .no
theorem g_not (ha : GE X cm W a fa) : GE X cm W (.UnaryOp .Not a pos) (eNot fa) :=
  pe_imp (pe_not ha) fun σ H Q ⟨p, ok, h⟩ => ⟨p, ok, (fin.bind h).imp (fun x S1 D1 H1 w s k v r1 => by
    try dsimp only at k
    split at k
    · cases r1
      exact ⟨_, rfl, k D1 H1 w (.refl _) _ (.bl _)⟩
    · exact absurd k id) fun _ _ _ _ _ _ z => z⟩
theorem g_if {fc : Env → M Bool} (hc : GT X cm W c fc) (ha : GE X cm W a fa) (hb : GE X cm W b fb) : GE X cm W (.IfExp c a b pos) (eIf fc fa fb) :=
  pe_imp (pe_ifExp hc ha hb) fun σ H Q ⟨p, ok, h⟩ => ⟨p, ok, (fin.bind h).imp (fun x S1 D1 H1 w s k => by
    try dsimp only at k
    cases x with
    | true => exact ⟨⟨p.A, S1, D1, p.Ow, p.Fr, p.ρ⟩, ok.on w s, k⟩
    | false => exact ⟨⟨p.A, S1, D1, p.Ow, p.Fr, p.ρ⟩, ok.on w s, k⟩) fun _ _ _ _ _ _ z => z⟩
/-- and, or as tests -/
def eAndT (a b : Env → M Bool) : Env → M Bool := fun ρ S => (a ρ S).bind fun x S1 => match x with
  | true => b ρ S1
  | false => .ok false S1
def eOrT (a b : Env → M Bool) : Env → M Bool := fun ρ S => (a ρ S).bind fun x S1 => match x with
  | true => .ok true S1
  | false => b ρ S1
abbrev GW (X : Cx) (cm : CM) (W : WX) (e : Expr) (f : Env → M Bool) : Prop := PW X e (tT cm W f)
theorem pw_imp {e : Expr} {t t' : TT} (h : PW X e t) (k : ∀ σ H Q, t' σ H Q → t σ H Q) : PW X e t' := ⟨fun wh pins s σ H Q I q => h.run wh pins s σ H Q I (k _ _ _ q)⟩
variable {ta tb : Env → M Bool} {rest : List Expr}
theorem gw_pt (h : GW X cm W a ta) : GT X cm W a ta := h.pt
theorem gw_and1 (h : GT X cm W a ta) : GW X cm W (.BoolOp .And [a] pos) ta := pw_and1 h
theorem gw_or1 (h : GT X cm W a ta) : GW X cm W (.BoolOp .Or [a] pos) ta := pw_or1 h
theorem gw_and (ha : GT X cm W a ta) (hb : GW X cm W (.BoolOp .And (b :: rest) pos) tb) : GW X cm W (.BoolOp .And (a :: b :: rest) pos) (eAndT ta tb) :=
  pw_imp (pw_and ha hb) fun σ H Q ⟨p, ok, h⟩ => ⟨p, ok, (fin.bind h).imp (fun x S1 D1 H1 w s k => by
    cases x with
    | true => exact ⟨⟨p.A, S1, D1, p.Ow, p.Fr, p.ρ⟩, ok.on w s, k⟩
    | false => exact k D1 H1 w (.refl _)) fun _ _ _ _ _ _ z => z⟩
theorem gw_or (ha : GT X cm W a ta) (hb : GW X cm W (.BoolOp .Or (b :: rest) pos) tb) : GW X cm W (.BoolOp .Or (a :: b :: rest) pos) (eOrT ta tb) :=
  pw_imp (pw_or ha hb) fun σ H Q ⟨p, ok, h⟩ => ⟨p, ok, (fin.bind h).imp (fun x S1 D1 H1 w s k => by
    cases x with
    | false => exact ⟨⟨p.A, S1, D1, p.Ow, p.Fr, p.ρ⟩, ok.on w s, k⟩
    | true => exact k D1 H1 w (.refl _)) fun _ _ _ _ _ _ z => z⟩
/-! ## lists of expressions -/
variable {es : List Expr} {fs : Exs}
theorem ga_nil : GA X cm W [] asNil := pa_imp pa_nil fun σ H Q ⟨p, ok, h⟩ => h p.D H ok.wd (.refl _) [] .nil
theorem ga_cons (ha : GE X cm W a fa) (hr : GA X cm W es fs) (hs : starEach (a :: es) X.env = (false, eval a X.env) :: starEach es X.env := by rfl) : GA X cm W (a :: es) (asCons fa fs) :=
  pa_imp (pa_cons ha hr hs) fun σ H Q ⟨p, ok, h⟩ => ⟨p, ok, (fin.bind h).imp (fun x S1 D1 H1 w s k v r1 =>
    ⟨⟨p.A, S1, D1, p.Ow, p.Fr, p.ρ⟩, ok.on w s, (fin.bind k).imp (fun xs S2 D2 H2 w2 s2 k2 vs r2 => k2 D2 H2 w2 (.refl _) (v :: vs) (.cons (r1.mono s2) r2)) fun _ _ _ _ _ _ z => z⟩) fun _ _ _ _ _ _ z => z⟩
theorem datas_dv {cm : CM} {A : List Addr} {D : Hp} {Ow : List (Addr × HO)} : ∀ {xs : List Vl} {vs : List V} {ds : List PyData}, datas xs = some ds → VRs cm A D Ow xs vs → DvA cm D vs ds
  | [], _, _, e, h => by cases h; cases e; exact .nil
  | .d x :: r, _, _, e, h => by
    cases h with
    | cons h1 h2 =>
      unfold datas at e
      split at e
      · rename_i xs e2
        cases e
        exact .cons h1 (datas_dv e2 h2)
      · cases e
  | .c _ :: _, _, _, e, _ => by cases e
  | .o _ :: _, _, _, e, _ => by cases e
  | .m _ _ :: _, _, _, e, _ => by cases e
theorem mkTup_inv {cm : CM} {A : List Addr} {S : Sto} {D : Hp} {F : List (Addr × HO)} {xs : List Vl} {okP : Vl → Sto → Hp → Hp → Prop} {erP : Exn → Sto → Hp → Hp → Prop} (h : fin cm A F D (mkTup xs S) okP erP) : ∃ ds, datas xs = some ds ∧ ds.length ≤ big ∧ ∀ D' H', Wd cm A S D' F H' → Same D D' → okP (.d (.tuple ds)) S D' H' := by
  unfold mkTup at h
  split at h
  · split at h
    · exact ⟨_, ‹_›, ‹_›, h⟩
    · exact absurd h id
  · exact absurd h id
theorem mkLst_inv {cm : CM} {A : List Addr} {S : Sto} {D : Hp} {F : List (Addr × HO)} {xs : List Vl} {okP : Vl → Sto → Hp → Hp → Prop} {erP : Exn → Sto → Hp → Hp → Prop} (h : fin cm A F D (mkLst xs S) okP erP) : ∃ ds, datas xs = some ds ∧ ds.length ≤ big ∧ ∀ D' H', Wd cm A S D' F H' → Same D D' → okP (.d (.list ds)) S D' H' := by
  unfold mkLst at h
  split at h
  · split at h
    · exact ⟨_, ‹_›, ‹_›, h⟩
    · exact absurd h id
  · exact absurd h id
theorem g_tup {x1} (h : GA X cm W es fs) : GE X cm W (.Tuple es x1 pos) (eArgs mkTup fs) :=
  pe_imp (pe_tup h) fun σ H Q ⟨p, ok, h⟩ => ⟨p, ok, (fin.bind h).imp (fun xs S1 D1 H1 w s k vs r1 => by
    obtain ⟨ds, e, hl, k2⟩ := mkTup_inv k
    have hd := datas_dv e r1
    refine ⟨by rw [hd.length]; exact Nat.le_of_lt (big_le hl), fun q nq => ?_⟩
    obtain ⟨w', s'⟩ := w.new nq (.tup vs)
    exact k2 _ _ w' s' _ (.tup upd_same (hd.mono s'))) fun _ _ _ _ _ _ z => z⟩
theorem g_lst (h : GA X cm W es fs) : GE X cm W (.List es pos) (eArgs mkLst fs) :=
  pe_imp (pe_lst h) fun σ H Q ⟨p, ok, h⟩ => ⟨p, ok, (fin.bind h).imp (fun xs S1 D1 H1 w s k vs r1 => by
    obtain ⟨ds, e, hl, k2⟩ := mkLst_inv k
    have hd := datas_dv e r1
    refine ⟨by rw [hd.length]; exact Nat.le_of_lt (big_le hl), fun q nq => ?_⟩
    obtain ⟨w', s'⟩ := w.new nq (.lst vs)
    exact k2 _ _ w' s' _ (.lst upd_same (hd.mono s'))) fun _ _ _ _ _ _ z => z⟩
/-! ## built-ins -/
def Ca (X : Cx) (cm : CM) (g : Value) (f : List PyData → Option PyData) : Prop := ∃ r, CallR X g r ∧ CaF cm r f
variable {e : Expr} {x : Str} {p : Pos}
theorem liftA_k {p : Pk} {σ : L2.St} {f : List PyData → Option PyData} {r : List V → Hp → VK → Prop} (hf : CaF cm r f) {xs : List Vl} {S1 : Sto} {D1 H1 : Hp} {vs : List V} {Q : VK} (w : Wd cm p.A S1 D1 (p.Ow ++ p.Fr) H1) (r1 : VRs cm p.A D1 p.Ow xs vs)
    (k : fin cm p.A (p.Ow ++ p.Fr) D1 (liftA f xs S1) (fun x _ D' H' => ∀ v, VR cm p.A D' p.Ow x v → Q v H') (erW cm W σ)) : r vs H1 Q := by
  obtain ⟨as, c, h1, h2, h3⟩ := liftA_inv k
  exact hf _ _ _ _ _ _ _ _ _ w (views_dw w h1 r1) h2 fun D' H' v w' s' hv => h3 D' H' w' s' v hv
theorem g_callB {id : String} {f : List PyData → Option PyData} (hc : Ca X cm (.builtin id) f) (hm : X.mg x = none) (ha : GA X cm W (e :: es) fs) (hg : Gl X x := by rfl) (hv : bootBuiltins x = some (.builtin id) := by decide +kernel) (hn : x ≠ "__name__" := by decide) (hdb : (x == ("__debug__" : Str)) = false := by decide)
    (he : starEach (e :: es) X.env = (false, eval e X.env) :: starEach es X.env := by rfl) (hpl : (backTo pos (starEach es X.env)).any (·.1) = false := by rfl) : GE X cm W (.Call (.Name x p) (e :: es) [] pos) (eArgs (liftA f) fs) := by
  obtain ⟨r, h1, h2⟩ := hc
  exact pe_imp (pe_callB h1 hg hm hv ha hn hdb he hpl) fun σ H Q ⟨p, ok, h⟩ => ⟨p, ok, (fin.bind h).imp (fun xs S1 D1 H1 w s k vs r1 => liftA_k h2 w r1 k) fun _ _ _ _ _ _ z => z⟩
theorem g_callTy {T : String} {f : List PyData → Option PyData} (hc : Ca X cm (.type T) f) (hm : X.mg x = none) (ha : GA X cm W (e :: es) fs) (hg : Gl X x := by rfl) (hv : bootBuiltins x = some (.type T) := by decide +kernel) (hn : x ≠ "__name__" := by decide) (hdb : (x == ("__debug__" : Str)) = false := by decide)
    (he : starEach (e :: es) X.env = (false, eval e X.env) :: starEach es X.env := by rfl) (hpl : (backTo pos (starEach es X.env)).any (·.1) = false := by rfl) : GE X cm W (.Call (.Name x p) (e :: es) [] pos) (eArgs (liftA f) fs) := by
  obtain ⟨r, h1, h2⟩ := hc
  exact pe_imp (pe_callTy h1 hg hm hv ha hn hdb he hpl) fun σ H Q ⟨p, ok, h⟩ => ⟨p, ok, (fin.bind h).imp (fun xs S1 D1 H1 w s k vs r1 => liftA_k h2 w r1 k) fun _ _ _ _ _ _ z => z⟩
/-! ## one of several -/
def Ix2 (X : Cx) (cm : CM) (f : PyData → PyData → Option PyData) : Prop := ∃ r, IxR X r ∧ OpF cm r f
theorem g_ix {f : PyData → PyData → Option PyData} (o : Ix2 X cm f) (ha : GE X cm W a fa) (hb : GE X cm W b fb) (hs : PlainIx b := by exact fun _ _ => rfl) : GE X cm W (.Subscript a b pos) (e2 (lift2 f) fa fb) := by
  obtain ⟨r, ho, hf⟩ := o
  refine pe_imp (pe_ix ho ha hb hs) fun σ H Q ⟨p, ok, h⟩ => ⟨p, ok, (fin.bind h).imp (fun x S1 D1 H1 w s k v r1 => ?_) fun _ _ _ _ _ _ z => z⟩
  refine ⟨⟨p.A, S1, D1, p.Ow, p.Fr, p.ρ⟩, ok.on w s, (fin.bind k).imp (fun y S2 D2 H2 w2 s2 k2 u r2 => ?_) fun _ _ _ _ _ _ z => z⟩
  obtain ⟨a, b, c, h1, h2, h3, h4⟩ := lift2_inv k2
  exact hf _ _ _ _ _ _ _ _ _ _ _ w2 (view_dw w2 h1 (r1.mono s2)) (view_dw w2 h2 r2) h3 fun D' H' v w' s' hv => h4 D' H' w' s' v hv
end
end Sm

set_option maxHeartbeats 4000000
namespace Sm
open PySem PySem.Spec PyProof.Rows L2 Lf

/-! ## targets -/
inductive Tg where
  | n (i : Nat)
  | t (ps : List Tg)
mutual
def asg : Tg → PyData → Env → Option Env
  | .n i, d, ρ => some (ρ.set i (some (.d d)))
  | .t ps, .tuple ds, ρ => asgs ps ds ρ
  | .t ps, .list ds, ρ => asgs ps ds ρ
  | .t _, _, _ => none
def asgs : List Tg → List PyData → Env → Option Env
  | [], [], ρ => some ρ
  | p :: ps, d :: ds, ρ => match asg p d ρ with
    | some ρ' => asgs ps ds ρ'
    | none => none
  | _, _, _ => none
end
mutual
def Tg.slots : Tg → List Nat
  | .n i => [i]
  | .t ps => slotsL ps
def slotsL : List Tg → List Nat
  | [] => []
  | p :: ps => p.slots ++ slotsL ps
end
/-- all but these slots are as they were -/
structure But (is : List Nat) (σ σ' : L2.St) : Prop where
  len : σ'.length = σ.length
  at' : ∀ i, i ∉ is → σ'[i]? = σ[i]?
theorem But.refl {is : List Nat} {σ : L2.St} : But is σ σ := ⟨rfl, fun _ _ => rfl⟩
theorem But.set {i : Nat} {σ : L2.St} {v : Option V} : But [i] σ (σ.set i v) := ⟨List.length_set, fun j h => List.getElem?_set_ne (fun z => h (by rw [z]; exact List.mem_singleton.mpr rfl))⟩
theorem But.trans {is js : List Nat} {σ σ1 σ2 : L2.St} (h : But is σ σ1) (k : But js σ1 σ2) : But (is ++ js) σ σ2 := ⟨k.len.trans h.len, fun i hi => (k.at' i fun z => hi (List.mem_append_right _ z)).trans (h.at' i fun z => hi (List.mem_append_left _ z))⟩
def tG (cm : CM) (pt : Tg) : TG := fun v σ H Q => ∃ (p : Pk) (d : PyData) (ρ' : Env), p.Ok cm σ H ∧ Dv cm p.D v d ∧ asg pt d p.ρ = some ρ' ∧ ∀ σ', Er cm p.A p.D p.Ow ρ' σ' → But pt.slots σ σ' → Q σ' H
def tGs (cm : CM) (pts : List Tg) : TGs := fun vs σ H Q => ∃ (p : Pk) (ds : List PyData) (ρ' : Env), p.Ok cm σ H ∧ DvA cm p.D vs ds ∧ asgs pts ds p.ρ = some ρ' ∧ ∀ σ', Er cm p.A p.D p.Ow ρ' σ' → But (slotsL pts) σ σ' → Q σ' H
abbrev GG (X : Cx) (cm : CM) (tg : Expr) (pt : Tg) : Prop := PG X tg (tG cm pt)
abbrev GGs (X : Cx) (cm : CM) (tgs : List Expr) (pts : List Tg) : Prop := PGs X tgs (tGs cm pts)
section
variable {cm : CM} {A : List Addr} {S : Sto} {D : Hp} {F Ow Fr : List (Addr × HO)} {H : Hp} {ρ : Env} {σ : L2.St} {x : Vl} {v : V}
/-- a name holds another value -/
theorem Er.set {i : Nat} (h : Er cm A D Ow ρ σ) (r : VR cm A D Ow x v) (nx : isOwn (some (some x)) = false) : Er cm A D Ow (ρ.set i (some x)) (σ.set i (some v)) := by
  refine ⟨by rw [List.length_set, List.length_set]; exact h.len, fun j y e => ?_, fun j k a hjk h1 h2 e1 e2 => ?_⟩
  · rw [List.getElem?_set] at e ⊢
    by_cases hij : i = j
    · rw [if_pos hij] at e ⊢
      split at e
      · rename_i hl
        cases e
        exact ⟨v, by rw [if_pos (by have := h.len; omega)], r⟩
      · cases e
    · rw [if_neg hij] at e ⊢
      exact h.at' j y e
  · have key : ∀ m, isOwn (ρ.set i (some x))[m]? = true → m ≠ i ∧ isOwn ρ[m]? = true := fun m hm => by
      rw [List.getElem?_set] at hm
      by_cases hij : i = m
      · rw [if_pos hij] at hm
        split at hm
        · cases x with
          | o ds => cases nx
          | m t ps => cases nx
          | d _ => cases hm
          | c _ => cases hm
        · cases hm
      · rw [if_neg hij] at hm
        exact ⟨fun z => hij z.symm, hm⟩
    obtain ⟨n1, o1⟩ := key j h1
    obtain ⟨n2, o2⟩ := key k h2
    rw [List.getElem?_set_ne n1.symm] at e1
    rw [List.getElem?_set_ne n2.symm] at e2
    exact h.ne j k a hjk o1 o2 e1 e2
/-- a name is forgotten -/
theorem Er.unset {i : Nat} {o : Option V} (h : Er cm A D Ow ρ σ) : Er cm A D Ow (ρ.set i none) (σ.set i o) := by
  refine ⟨by rw [List.length_set, List.length_set]; exact h.len, fun j y e => ?_, fun j k a hjk h1 h2 e1 e2 => ?_⟩
  · rw [List.getElem?_set] at e ⊢
    by_cases hij : i = j
    · rw [if_pos hij] at e
      split at e <;> cases e
    · rw [if_neg hij] at e ⊢
      exact h.at' j y e
  · have key : ∀ m, isOwn (ρ.set i none)[m]? = true → m ≠ i ∧ isOwn ρ[m]? = true := fun m hm => by
      rw [List.getElem?_set] at hm
      by_cases hij : i = m
      · rw [if_pos hij] at hm
        split at hm <;> cases hm
      · rw [if_neg hij] at hm
        exact ⟨fun z => hij z.symm, hm⟩
    obtain ⟨n1, o1⟩ := key j h1
    obtain ⟨n2, o2⟩ := key k h2
    rw [List.getElem?_set_ne n1.symm] at e1
    rw [List.getElem?_set_ne n2.symm] at e2
    exact h.ne j k a hjk o1 o2 e1 e2
end
section
variable {X : Cx} {cm : CM} {W : WX} {pos : Pos} {e : Expr} {es : List Expr}
theorem gg_name {i : Nat} {x : Str} (hN : X.N.Nodup) (hi : X.N[i]? = some x) (hx : Loc X.env.scope x) (hf : X.fn x = true ∨ X.env.scope.names.lookup x = some .local := by first | exact .inl rfl | exact .inr rfl | assumption) : GG X cm (.Name x pos) (.n i) := by
  have g := pg_name (pos := pos) hN hi hx hf
  refine ⟨fun pins s σ H v u Q I r h => g.run pins s σ H v u Q I r ?_⟩
  obtain ⟨p, d, ρ', ok, hd, e, q⟩ := h
  cases e
  exact q _ (ok.er.set hd rfl) .set
theorem ggs_nil : GGs X cm [] [] := ⟨fun pins s σ H vs us Q I r h => pgs_nil.run pins s σ H vs us Q I r (by
  obtain ⟨p, ds, ρ', ok, hd, e, q⟩ := h
  cases ds with
  | nil => cases hd; cases e; exact ⟨rfl, q σ ok.er .refl⟩
  | cons d ds => simp [asgs] at e)⟩
theorem ggs_cons {pt : Tg} {pts : List Tg} (h1 : GG X cm e pt) (h2 : GGs X cm es pts) (hs : (assignEach (e :: es) X.env).map (·.2) = assign e X.env :: (assignEach es X.env).map (·.2) := by rfl) : GGs X cm (e :: es) (pt :: pts) := by
  have g := pgs_cons h1 h2 hs
  refine ⟨fun pins s σ H vs us Q I r h => g.run pins s σ H vs us Q I r ?_⟩
  obtain ⟨p, ds, ρ', ok, hd, e, q⟩ := h
  cases ds with
  | nil => simp [asgs] at e
  | cons d ds =>
    cases hd with
    | cons hd1 hd2 =>
      unfold asgs at e
      cases e1 : asg pt d p.ρ with
      | none => rw [e1] at e; cases e
      | some ρ1 =>
        rw [e1] at e
        exact ⟨_, _, rfl, p, d, ρ1, ok, hd1, e1, fun σ1 k b => ⟨⟨p.A, p.S, p.D, p.Ow, p.Fr, ρ1⟩, ds, ρ', ⟨ok.wd, k⟩, hd2, e, fun σ2 k2 b2 => q σ2 k2 (b.trans b2)⟩⟩
theorem asgs_len : ∀ {pts : List Tg} {ds : List PyData} {ρ ρ' : Env}, asgs pts ds ρ = some ρ' → ds.length = pts.length
  | [], [], _, _, _ => rfl
  | [], _ :: _, _, _, e => by simp [asgs] at e
  | _ :: _, [], _, _, e => by simp [asgs] at e
  | p :: ps, d :: ds, ρ, ρ', e => by
    unfold asgs at e
    cases e1 : asg p d ρ with
    | none => rw [e1] at e; cases e
    | some ρ1 => rw [e1] at e; exact congrArg (· + 1) (asgs_len e)
theorem gg_tup {k : Nat} {pts : List Tg} (hc : X.calm = true) (h : GGs X cm es pts) (hn : (assignEach es X.env).length = pts.length := by rfl) (hst : (assignEach es X.env).findIdx? (·.1) = none := by rfl) : GG X cm (.Tuple es k pos) (.t pts) := by
  refine ⟨fun pins s σ H v u Q I r h' => ?_⟩
  obtain ⟨p, d, ρ', ok, hd, e, q⟩ := h'
  cases d with
  | tuple ds =>
    have e' : asgs pts ds p.ρ = some ρ' := by simpa only [asg] using e
    have hl := asgs_len e'
    cases hd with
    | @tup a xs _ h1 h2 => exact (pg_tup (pos := pos) (k := k) hc h hn hst).run pins s σ H _ u Q I r ⟨a, xs, rfl, .of (ok.wd.sub _ _ h1), by rw [h2.length, hl], p, ds, ρ', ok, h2, e', q⟩
  | list ds =>
    have e' : asgs pts ds p.ρ = some ρ' := by simpa only [asg] using e
    have hl := asgs_len e'
    cases hd with
    | @lst a xs _ h1 h2 => exact (pg_lst (pos := pos) (k := k) hc h hn hst).run pins s σ H _ u Q I r ⟨a, xs, rfl, .of (ok.wd.sub _ _ h1), by rw [h2.length, hl], p, ds, ρ', ok, h2, e', q⟩
  | none => simp [asg] at e
  | bool _ => simp [asg] at e
  | int _ => simp [asg] at e
  | str _ => simp [asg] at e
  | dict _ => simp [asg] at e
end

/-! ## statements -/
def sE (r : R Vl) (ρ : Env) (k : Vl → Sto → Option (Out × Env × Sto)) : Option (Out × Env × Sto) := match r with
  | .ok x S => k x S
  | .er e S => some (.er e, ρ, S)
  | .no => none
def sRet (e : Ex) : Sx := fun ρ S => sE (e ρ S) ρ fun x S1 => some (.rt x, ρ, S1)
def sRetN : Sx := fun ρ S => some (.rt (.d .none), ρ, S)
def sExpr (e : Ex) : Sx := fun ρ S => sE (e ρ S) ρ fun _ S1 => some (.nx, ρ, S1)
def notO : Vl → Bool
  | .o _ => false
  | .m _ _ => false
  | _ => true
theorem notO_own {x : Vl} (h : notO x = true) : isOwn (some (some x)) = false := by
  cases x with
  | d _ => rfl
  | c _ => rfl
  | o _ => cases h
  | m _ _ => cases h
def sSet (i : Nat) (e : Ex) : Sx := fun ρ S => sE (e ρ S) ρ fun x S1 => if notO x then some (.nx, ρ.set i (some x), S1) else none
/-- a target that takes data apart -/
def sAsg (pt : Tg) (e : Ex) : Sx := fun ρ S => sE (e ρ S) ρ fun x S1 => match x with
  | .d d => match asg pt d ρ with
    | some ρ' => some (.nx, ρ', S1)
    | none => none
  | _ => none
def sNil : Sx := fun ρ S => some (.nx, ρ, S)
def sSeq (a b : Sx) : Sx := fun ρ S => match a ρ S with
  | some (.nx, ρ', S') => b ρ' S'
  | some r => some r
  | none => none
def sIf (c : Env → M Bool) (a b : Sx) : Sx := fun ρ S => match c ρ S with
  | .ok true S1 => a ρ S1
  | .ok false S1 => b ρ S1
  | .er e S1 => some (.er e, ρ, S1)
  | .no => none
def sBreak : Sx := fun ρ S => some (.bk, ρ, S)
def sCont : Sx := fun ρ S => some (.ct, ρ, S)
section
variable {cm : CM} {W : WX} {p : Pk} {σ : L2.St} {H : Hp} {P : Out → Pk → L2.St → Hp → Prop}
/-- an expression within a statement -/
theorem finE {r : R Vl} {k : Vl → Sto → Option (Out × Env × Sto)} {okQ : Vl → Sto → Hp → Hp → Prop} (ok : p.Ok cm σ H) (h : finS cm p (sE r p.ρ k) P)
    (hok : ∀ x S1 D1 H1, r = .ok x S1 → Pk.Ok cm ⟨p.A, S1, D1, p.Ow, p.Fr, p.ρ⟩ σ H1 → Same p.D D1 → finS cm ⟨p.A, S1, D1, p.Ow, p.Fr, p.ρ⟩ (k x S1) P → okQ x S1 D1 H1)
    (her : ∀ e S1 D1 H1, P (.er e) ⟨p.A, S1, D1, p.Ow, p.Fr, p.ρ⟩ σ H1 → erW cm W σ e S1 D1 H1) : p.fin cm r okQ (erW cm W σ) := by
  cases r with
  | ok x S1 =>
    intro D1 H1 w s
    refine hok x S1 D1 H1 rfl (ok.on w s) s ?_
    have h' : finS cm p (k x S1) P := h
    cases e : k x S1 with
    | none => rw [e] at h'; exact h'
    | some t =>
      rw [e] at h'
      exact fun D' Ow' σ' H' ok' s' => h' D' Ow' σ' H' ok' (s.trans s')
  | er e S1 => exact fun D1 H1 w s => her e S1 D1 H1 (h D1 p.Ow σ H1 (ok.on w s) s)
  | no => exact h
end
section
variable {X : Cx} {cm : CM} {W : WX} {pos : Pos} {e : Expr} {f : Ex}
theorem gs_ret (he : GE X cm W e f) : GS X cm W (.Return (some e) pos) (sRet f) :=
  ps_imp (ps_ret he) fun D σ H ⟨p, ok, h⟩ => ⟨p, ok, finE (W := W) (okQ := fun x S1 D1 H1 => ∀ v, VR cm p.A D1 p.Ow x v → D.rt v H1) ok h (fun x S1 D1 H1 _ ok1 s k => k D1 p.Ow σ H1 ok1 (.refl _)) fun e S1 D1 H1 z => z⟩
theorem gs_retN : GS X cm W (.Return none pos) sRetN := ps_imp ps_retN fun D σ H ⟨p, ok, h⟩ => h p.D p.Ow σ H ok (.refl _) .non .non
theorem gs_pass : GS X cm W (.Pass pos) sNil := ps_imp ps_pass fun D σ H ⟨p, ok, h⟩ => h p.D p.Ow σ H ok (.refl _)
theorem gs_break : GS X cm W (.Break pos) sBreak := ps_imp ps_break fun D σ H ⟨p, ok, h⟩ => h p.D p.Ow σ H ok (.refl _)
theorem gs_cont : GS X cm W (.Continue pos) sCont := ps_imp ps_continue fun D σ H ⟨p, ok, h⟩ => h p.D p.Ow σ H ok (.refl _)
theorem gs_doc {x j pos pos'} : GS X cm W (.Expr (.Constant (.str x) j pos) pos') sNil := ps_imp ps_doc fun D σ H ⟨p, ok, h⟩ => h p.D p.Ow σ H ok (.refl _)
theorem gs_expr (he : GE X cm W e f) (hs : swapsWith e none pos.line X.env = pure false := by rfl) : GS X cm W (.Expr e pos) (sExpr f) :=
  ps_imp (ps_expr he hs) fun D σ H ⟨p, ok, h⟩ => ⟨p, ok, finE (W := W) (okQ := fun x S1 D1 H1 => ∀ v, VR cm p.A D1 p.Ow x v → D.nx σ H1) ok h (fun x S1 D1 H1 _ ok1 s k v _ => k D1 p.Ow σ H1 ok1 (.refl _)) fun e S1 D1 H1 z => z⟩
theorem gs_set {i : Nat} {x : Str} {pos' : Pos} (hN : X.N.Nodup) (hi : X.N[i]? = some x) (hx : Loc X.env.scope x) (he : GE X cm W e f) (hs : swapsWith e (some (.Name x pos')) pos.line X.env = pure false := by rfl) (hf : X.fn x = true ∨ X.env.scope.names.lookup x = some .local := by first | exact .inl rfl | exact .inr rfl | assumption) :
    GS X cm W (.Assign [.Name x pos'] e pos) (sSet i f) :=
  ps_imp (ps_set hN hi hx he hs hf) fun D σ H ⟨p, ok, h⟩ => ⟨p, ok, finE (W := W) (okQ := fun x S1 D1 H1 => ∀ v, VR cm p.A D1 p.Ow x v → D.nx (σ.set i (some v)) H1) ok h (fun x S1 D1 H1 _ ok1 s k v r => by
    split at k
    · rename_i hn
      exact k D1 p.Ow _ H1 ⟨ok1.wd, ok1.er.set r (notO_own hn)⟩ (.refl _)
    · exact absurd k id) fun e S1 D1 H1 z => z⟩
theorem gs_asg {tg : Expr} {pt : Tg} (he : GE X cm W e f) (hg : GG X cm tg pt) (hs : swapsWithSole [tg] e pos.line X.env = pure false := by rfl) (hw : swappedStores [tg] e X.env = pure none := by rfl)
    (h1 : (assignEach [tg] X.env).map (·.2) = [assign tg X.env] := by rfl) : GS X cm W (.Assign [tg] e pos) (sAsg pt f) :=
  ps_imp (ps_asg he hg hs hw h1) fun D σ H ⟨p, ok, h⟩ => ⟨p, ok, finE (W := W) (okQ := fun x S1 D1 H1 => ∀ v, VR cm p.A D1 p.Ow x v → tG cm pt v σ H1 D.nx) ok h (fun x S1 D1 H1 _ ok1 s k v r => by
    split at k
    · split at k
      · rename_i d ρ' e
        exact ⟨⟨p.A, S1, D1, p.Ow, p.Fr, p.ρ⟩, _, ρ', ok1, r, e, fun σ' er' _ => k D1 p.Ow σ' H1 ⟨ok1.wd, er'⟩ (.refl _)⟩
      · exact absurd k id
    · exact absurd k id) fun e S1 D1 H1 z => z⟩
variable {st : Stmt} {rest : List Stmt} {a b : Sx}
theorem gss_nil : GSs X cm W [] sNil := pss_imp pss_nil fun D σ H ⟨p, ok, h⟩ => h p.D p.Ow σ H ok (.refl _)
theorem gss_one (h : GS X cm W st a) : GSs X cm W [st] a := pss_one h
theorem gss_cons (h1 : GS X cm W st a) (h2 : GSs X cm W rest b) : GSs X cm W (st :: rest) (sSeq a b) :=
  pss_imp (pss_cons h1 h2) fun D σ H ⟨p, ok, h⟩ => by
    refine ⟨p, ok, ?_⟩
    unfold sSeq at h
    cases e : a p.ρ p.S with
    | none => rw [e] at h; exact h
    | some t =>
      obtain ⟨o, ρ1, S1⟩ := t
      rw [e] at h
      intro D1 Ow1 σ1 H1 ok1 s1
      cases o with
      | nx =>
        refine ⟨_, ok1, ?_⟩
        have h' : finS cm p (b ρ1 S1) _ := h
        cases e2 : b ρ1 S1 with
        | none => rw [e2] at h'; exact h'
        | some t2 =>
          rw [e2] at h'
          exact fun D' Ow' σ' H' ok' s' => h' D' Ow' σ' H' ok' (s1.trans s')
      | rt x => exact h D1 Ow1 σ1 H1 ok1 s1
      | bk => exact h D1 Ow1 σ1 H1 ok1 s1
      | ct => exact h D1 Ow1 σ1 H1 ok1 s1
      | er x => exact h D1 Ow1 σ1 H1 ok1 s1
theorem gs_if {c : Expr} {fc : Env → M Bool} {as bs : List Stmt} (hc : GT X cm W c fc) (ha : GSs X cm W as a) (hb : GSs X cm W bs b) : GS X cm W (.If c as bs pos) (sIf fc a b) :=
  ps_imp (ps_if hc ha hb) fun D σ H ⟨p, ok, h⟩ => by
    refine ⟨p, ok, ?_⟩
    unfold sIf at h
    cases e : fc p.ρ p.S with
    | no => rw [e] at h; exact absurd h id
    | er x S1 => rw [e] at h; exact fun D1 H1 w s => h D1 p.Ow σ H1 (ok.on w s) s
    | ok t S1 =>
      rw [e] at h
      intro D1 H1 w s
      have key : ∀ g : Sx, finS cm p (g p.ρ S1) (fun o q σ' H' => outP cm W D o q σ' H') → tS cm W g D σ H1 := fun g hg => by
        refine ⟨⟨p.A, S1, D1, p.Ow, p.Fr, p.ρ⟩, ok.on w s, ?_⟩
        show finS cm _ (g p.ρ S1) _
        cases e2 : g p.ρ S1 with
        | none => rw [e2] at hg; exact hg
        | some t2 =>
          rw [e2] at hg
          exact fun D' Ow' σ' H' ok' s' => hg D' Ow' σ' H' ok' (s.trans s')
      cases t with
      | true => exact key _ h
      | false => exact key _ h
end
end Sm

set_option maxHeartbeats 4000000
namespace Lf
open PySem PySem.Spec PyProof.Rows L2
/-- what is walked is a list or a tuple -/
def iSeq (K : PySem.W.Frag) (tl : TE) : TI := fun σ H R => tl σ H fun x H1 => ∃ a, x = V.ref a ∧ (((∃ xs, SqL K H1 a xs) ∧ R (Itl K a) H1) ∨ ((∃ xs, SqT K H1 a xs) ∧ R (Itt K a) H1))
theorem pi_seq {X : Cx} {tg l : Expr} {tl : TE} (hl : PE X l tl) : PI X tg l (iSeq X.K tl) := ⟨fun pins s σ H R I h => by
  refine thn (hl.run pins s σ H _ I h) fun v s1 hx => ?_
  obtain ⟨x, H1, I1, r1, a, rfl, q⟩ := hx
  obtain rfl : v = Value.ref a := r1
  rcases q with ⟨⟨xs, hq⟩, q⟩ | ⟨⟨xs, hq⟩, q⟩
  · obtain ⟨its, rv, p, hz⟩ := I1.list hq
    refine wpAny_pyIter_list p.isList ⟨s1.heap.objs.size, [s1.heap.objs.size], _, Itl X.K a, H1, rfl, I1.kept fun b o e => Heap.get?_push_of_some _ e, turn_list a s1.heap.objs.size, ⟨_, Heap.get?_push_size _ rfl, rfl, rfl⟩, fun b hb => ?_, q⟩
    rw [List.mem_singleton.mp hb]
    exact I1.fpOk (Nat.le_refl _) (I1.hok.fresh (Nat.le_refl _))
  · obtain ⟨its, rv, p, hz⟩ := I1.tuple hq
    refine wpAny_pyIter_tuple p ⟨s1.heap.objs.size, [s1.heap.objs.size], _, Itt X.K a, H1, rfl, I1.kept fun b o e => Heap.get?_push_of_some _ e, turn_tuple a s1.heap.objs.size, ⟨_, Heap.get?_push_size _ rfl, rfl, rfl⟩, fun b hb => ?_, q⟩
    rw [List.mem_singleton.mp hb]
    exact I1.fpOk (Nat.le_refl _) (I1.hok.fresh (Nat.le_refl _))⟩
end Lf

set_option maxHeartbeats 4000000
namespace Sm
open PySem PySem.Spec PyProof.Rows L2 Lf

/-! ## what is walked -/
abbrev Ix := Env → M (List PyData)
def GH (cm : CM) (D0 : Hp) : Hp → Prop := fun H => ∃ A S D F, Wd cm A S D F H ∧ Same D0 D
def YH (cm : CM) (D0 : Hp) (ds : List PyData) : Nat → Hp → V → Hp → Prop := fun i H x H' => ∀ A S D F, Wd cm A S D F H → Same D0 D → ∃ D' d, ds[i]? = some d ∧ Wd cm A S D' F H' ∧ Same D D' ∧ Dv cm D' x d
/-- the iterator gives these data, one behind another -/
def Yl (cm : CM) (J : It) (D0 : Hp) (ds : List PyData) : Prop := Walk J ds.length (GH cm D0) (YH cm D0 ds)
def tI (cm : CM) (W : WX) (f : Ix) : TI := fun σ H R => ∃ p : Pk, p.Ok cm σ H ∧ p.fin cm (f p.ρ p.S) (fun ds _ D' H' => ∀ J, Yl cm J D' ds → R J H') (erW cm W σ)
abbrev GI (X : Cx) (cm : CM) (W : WX) (tg : Expr) (e : Expr) (f : Ix) : Prop := PI X tg e (tI cm W f)
theorem pi_imp {X : Cx} {tg e : Expr} {t t' : TI} (h : PI X tg e t) (k : ∀ σ H R, t' σ H R → t σ H R) : PI X tg e t' := ⟨fun pins s σ H R I q => h.run pins s σ H R I (k _ _ _ q)⟩
def seqOf : Vl → M (List PyData)
  | .d (.list ds) => fun S => .ok ds S
  | .d (.tuple ds) => fun S => .ok ds S
  | _ => fun _ => .no
def iSq (f : Ex) : Ix := fun ρ S => (f ρ S).bind seqOf
def rangeL (lo : Int) (n : Nat) : List PyData := (List.range n).map fun i => .int (lo + (i : Nat))
def rng1 : List Vl → M (List PyData)
  | [.d (.int j)] => fun S => if -1000000 ≤ j ∧ j ≤ 1000000 then .ok (rangeL 0 j.toNat) S else .no
  | _ => fun _ => .no
def rng2 : List Vl → M (List PyData)
  | [.d (.int i), .d (.int j)] => fun S => if -1000000 ≤ i ∧ i ≤ 1000000 ∧ -1000000 ≤ j ∧ j ≤ 1000000 then .ok (rangeL i (j - i).toNat) S else .no
  | _ => fun _ => .no
def iArgs (g : List Vl → M (List PyData)) (f : Exs) : Ix := fun ρ S => (f ρ S).bind g
section
variable {cm : CM} {D0 : Hp} {ds : List PyData}
theorem yl_list {K : PySem.W.Frag} {a : Addr} {xs : List V} (h : D0 a = some (.lst xs)) (hd : DvA cm D0 xs ds) : Yl cm (Itl K a) D0 ds := by
  have w := walk_list (K := K) (a := a) (xs := xs)
  rw [show xs.length = ds.length from hd.length] at w
  refine w.mono (fun H ⟨A, S, D, F, wd, s⟩ => .of (wd.sub _ _ (s _ _ h))) fun i H x H' hi _ y A S D F wd s => ?_
  obtain ⟨rfl, e⟩ := y
  obtain ⟨d, e2, hv⟩ := hd.get e
  exact ⟨D, d, e2, wd, .refl _, hv.mono s⟩
theorem yl_tup {K : PySem.W.Frag} {a : Addr} {xs : List V} (h : D0 a = some (.tup xs)) (hd : DvA cm D0 xs ds) : Yl cm (Itt K a) D0 ds := by
  have w := walk_tup (K := K) (a := a) (xs := xs)
  rw [show xs.length = ds.length from hd.length] at w
  refine w.mono (fun H ⟨A, S, D, F, wd, s⟩ => .of (wd.sub _ _ (s _ _ h))) fun i H x H' hi _ y A S D F wd s => ?_
  obtain ⟨rfl, e⟩ := y
  obtain ⟨d, e2, hv⟩ := hd.get e
  exact ⟨D, d, e2, wd, .refl _, hv.mono s⟩
theorem yl_range {lo : Int} {n : Nat} : Yl cm (Itr lo n) D0 (rangeL lo n) := by
  have w := walk_range (lo := lo) (n := n)
  unfold Yl
  rw [show (rangeL lo n).length = n by unfold rangeL; rw [List.length_map, List.length_range]]
  refine w.mono (fun H _ => trivial) fun i H x H' hi _ y A S D F wd s => ?_
  obtain ⟨rfl, rfl⟩ := y
  refine ⟨D, .int (lo + (i : Nat)), ?_, wd, .refl _, .int _⟩
  unfold rangeL
  rw [List.getElem?_map, List.getElem?_range hi]
  rfl
end
section
variable {X : Cx} {cm : CM} {W : WX} {tg e : Expr} {f : Ex} {fs : Exs} {p pos : Pos}
theorem gi_seq (h : GE X cm W e f) : GI X cm W tg e (iSq f) :=
  pi_imp (pi_seq h) fun σ H R ⟨p, ok, h⟩ => ⟨p, ok, (fin.bind h).imp (fun x S1 D1 H1 w s k v r1 => by
    unfold seqOf at k
    split at k
    · cases r1 with
      | @lst a xs _ h1 h2 => exact ⟨a, rfl, .inl ⟨⟨xs, .of (w.sub _ _ h1)⟩, k D1 H1 w (.refl _) _ (yl_list h1 h2)⟩⟩
    · cases r1 with
      | @tup a xs _ h1 h2 => exact ⟨a, rfl, .inr ⟨⟨xs, .of (w.sub _ _ h1)⟩, k D1 H1 w (.refl _) _ (yl_tup h1 h2)⟩⟩
    · exact absurd k id) fun _ _ _ _ _ _ z => z⟩
theorem vrs1 {A : List Addr} {D : Hp} {Ow : List (Addr × HO)} {x : Vl} {vs : List V} (h : VRs cm A D Ow [x] vs) : ∃ v, vs = [v] ∧ VR cm A D Ow x v := by
  cases h with
  | cons h1 h2 => cases h2; exact ⟨_, rfl, h1⟩
theorem vrs2 {A : List Addr} {D : Hp} {Ow : List (Addr × HO)} {x y : Vl} {vs : List V} (h : VRs cm A D Ow [x, y] vs) : ∃ v u, vs = [v, u] ∧ VR cm A D Ow x v ∧ VR cm A D Ow y u := by
  cases h with
  | cons h1 h2 =>
    obtain ⟨u, rfl, h3⟩ := vrs1 h2
    exact ⟨_, _, rfl, h1, h3⟩
theorem gi_range1 {a : Expr} (hm : X.mg "range" = none) (ha : GA X cm W [a] fs) (hg : Gl X "range" := by rfl) (hs : starEach [a] X.env = [(false, eval a X.env)] := by rfl) : GI X cm W tg (.Call (.Name "range" p) [a] [] pos) (iArgs rng1 fs) :=
  pi_imp (pi_range1 hg hm ha hs) fun σ H R ⟨p, ok, h⟩ => ⟨p, ok, (fin.bind h).imp (fun x S1 D1 H1 w s k vs r1 => by
    unfold rng1 at k
    split at k
    · rename_i j
      split at k
      · rename_i hj
        obtain ⟨v, rfl, r2⟩ := vrs1 r1
        cases r2
        exact ⟨j, rfl, by omega, by omega, k D1 H1 w (.refl _) _ yl_range⟩
      · exact absurd k id
    · exact absurd k id) fun _ _ _ _ _ _ z => z⟩
theorem gi_range2 {a b : Expr} (hm : X.mg "range" = none) (ha : GA X cm W [a, b] fs) (hg : Gl X "range" := by rfl) (hs : starEach [a, b] X.env = [(false, eval a X.env), (false, eval b X.env)] := by rfl) (hs2 : starEach [b] X.env = [(false, eval b X.env)] := by rfl) : GI X cm W tg (.Call (.Name "range" p) [a, b] [] pos) (iArgs rng2 fs) :=
  pi_imp (pi_range2 hg hm ha hs hs2) fun σ H R ⟨p, ok, h⟩ => ⟨p, ok, (fin.bind h).imp (fun x S1 D1 H1 w s k vs r1 => by
    unfold rng2 at k
    split at k
    · rename_i i j
      split at k
      · rename_i hj
        obtain ⟨v, u, rfl, r2, r3⟩ := vrs2 r1
        cases r2
        cases r3
        exact ⟨i, j, rfl, ⟨by omega, by omega, by omega, by omega⟩, k D1 H1 w (.refl _) _ yl_range⟩
      · exact absurd k id
    · exact absurd k id) fun _ _ _ _ _ _ z => z⟩
end

/-! ## for -/
def loopS (pt : Tg) (body : Sx) : List PyData → Sx
  | [] => fun ρ S => some (.nx, ρ, S)
  | d :: ds => fun ρ S => match asg pt d ρ with
    | none => none
    | some ρ1 => match body ρ1 S with
      | some (.nx, ρ2, S2) => loopS pt body ds ρ2 S2
      | some (.ct, ρ2, S2) => loopS pt body ds ρ2 S2
      | some (.bk, ρ2, S2) => some (.nx, ρ2, S2)
      | some r => some r
      | none => none
def sI (r : R (List PyData)) (ρ : Env) (k : List PyData → Sto → Option (Out × Env × Sto)) : Option (Out × Env × Sto) := match r with
  | .ok x S => k x S
  | .er e S => some (.er e, ρ, S)
  | .no => none
def sFor (pt : Tg) (fi : Ix) (body : Sx) : Sx := fun ρ S => sI (fi ρ S) ρ fun ds S1 => loopS pt body ds ρ S1
section
variable {cm : CM} {p q : Pk} {σ : L2.St} {H : Hp} {P : Out → Pk → L2.St → Hp → Prop} {r : Option (Out × Env × Sto)}
theorem finS.on (h : finS cm p r P) (hA : q.A = p.A) (hF : q.Fr = p.Fr) (s : Same p.D q.D) : finS cm q r P := by
  cases r with
  | none => exact h
  | some t =>
    intro D' Ow' σ' H' ok s'
    rw [hA, hF] at ok ⊢
    exact h D' Ow' σ' H' ok (s.trans s')
theorem finS.imp {P' : Out → Pk → L2.St → Hp → Prop} (h : finS cm p r P) (k : ∀ o q σ' H', q.Ok cm σ' H' → q.A = p.A → q.Fr = p.Fr → Same p.D q.D → P o q σ' H' → P' o q σ' H') : finS cm p r P' := by
  cases r with
  | none => exact h
  | some t => exact fun D' Ow' σ' H' ok s => k _ _ _ _ ok rfl rfl s (h D' Ow' σ' H' ok s)
end
section
variable {X : Cx} {cm : CM} {W : WX} {tg iter : Expr} {pt : Tg} {fi : Ix} {body : List Stmt} {fb : Sx} {pos : Pos}
theorem gs_for (hp : PassesOwn (model X.prog X.w) X.A X.env X.xe) (hc : X.calm = true) (hi : GI X cm W tg iter fi) (hg : GG X cm tg pt) (hb : GSs X cm W body fb) (hs : ∀ x, foldedSetIterable iter X.env x = pure x := by intro _; rfl) : GS X cm W (.For tg iter body [] pos) (sFor pt fi fb) :=
  ps_imp (ps_for hp hc hi hg hb hs) fun D σ H ⟨p, ok, h⟩ => by
    refine ⟨p, ok, ?_⟩
    unfold sFor at h
    cases e : fi p.ρ p.S with
    | no => rw [e] at h; exact absurd h id
    | er x S1 => rw [e] at h; exact fun D1 H1 w s => h D1 p.Ow σ H1 (ok.on w s) s
    | ok ds S1 =>
      rw [e] at h
      intro D1 H1 w1 s1 J yl
      have h' : finS cm p (loopS pt fb ds p.ρ S1) (fun o q σ' H' => outP cm W D o q σ' H') := h
      refine for_it yl (fun i σ H => ∃ q : Pk, q.Ok cm σ H ∧ q.A = p.A ∧ q.Fr = p.Fr ∧ Same D1 q.D ∧ finS cm q (loopS pt fb (ds.drop i) q.ρ q.S) (fun o q σ' H' => outP cm W D o q σ' H')) ⟨⟨p.A, S1, D1, p.Ow, p.Fr, p.ρ⟩, ok.on w1 s1, rfl, rfl, .refl _, h'.on rfl rfl s1⟩ (fun i σ H _ ⟨q, okq, _, _, sq, _⟩ => ⟨_, _, _, _, okq.wd, sq⟩) (fun i x σ H H' hi ⟨q, okq, hA, hF, sq, hq⟩ y => ?_) (fun σ H ⟨q, okq, hA, hF, sq, hq⟩ => ?_)
      · obtain ⟨D2, d, e2, w2, s2, hv⟩ := y _ _ _ _ okq.wd sq
        rw [List.drop_eq_getElem_cons hi, show ds[i] = d from (List.getElem_eq_iff hi).mpr e2] at hq
        unfold loopS at hq
        cases e3 : asg pt d q.ρ with
        | none => rw [e3] at hq; exact absurd hq id
        | some ρ1 =>
          rw [e3] at hq
          refine ⟨⟨q.A, q.S, D2, q.Ow, q.Fr, q.ρ⟩, d, ρ1, okq.on w2 s2, hv, e3, fun σ1 er1 _ => ⟨⟨q.A, q.S, D2, q.Ow, q.Fr, ρ1⟩, ⟨w2, er1⟩, ?_⟩⟩
          dsimp only at hq ⊢
          cases e4 : fb ρ1 q.S with
          | none => rw [e4] at hq; exact hq
          | some t =>
            obtain ⟨o, ρ2, S2⟩ := t
            rw [e4] at hq
            intro D3 Ow3 σ3 H3 ok3 s3
            cases o with
            | nx => exact ⟨_, ok3, hA, hF, sq.trans (s2.trans s3), finS.on hq rfl rfl (s2.trans s3)⟩
            | ct => exact ⟨_, ok3, hA, hF, sq.trans (s2.trans s3), finS.on hq rfl rfl (s2.trans s3)⟩
            | bk => exact hq D3 Ow3 σ3 H3 ok3 (s2.trans s3)
            | rt x => exact hq D3 Ow3 σ3 H3 ok3 (s2.trans s3)
            | er x => exact hq D3 Ow3 σ3 H3 ok3 (s2.trans s3)
      · rw [List.drop_length] at hq
        exact hq q.D q.Ow σ H okq (.refl _)
end

/-! ## while: so many turns at most -/
def whileS (c : Env → M Bool) (body : Sx) : Nat → Sx
  | 0 => fun _ _ => none
  | n + 1 => fun ρ S => match c ρ S with
    | .ok true S1 => match body ρ S1 with
      | some (.nx, ρ2, S2) => whileS c body n ρ2 S2
      | some (.ct, ρ2, S2) => whileS c body n ρ2 S2
      | some (.bk, ρ2, S2) => some (.nx, ρ2, S2)
      | some r => some r
      | none => none
    | .ok false S1 => some (.nx, ρ, S1)
    | .er e S1 => some (.er e, ρ, S1)
    | .no => none
section
variable {X : Cx} {cm : CM} {W : WX} {c : Expr} {fc : Env → M Bool} {body : List Stmt} {fb : Sx} {pos : Pos} {n : Nat}
theorem gs_while (hp : PassesOwn (model X.prog X.w) X.A X.env X.xe) (hc : GT X cm W c fc) (hb : GSs X cm W body fb) : GS X cm W (.While c body [] pos) (whileS fc fb n) :=
  ps_imp (ps_while hp hc hb) fun D σ H ⟨p, ok, h⟩ => by
    refine ⟨fun m σ H => ∃ q : Pk, q.Ok cm σ H ∧ finS cm q (whileS fc fb m q.ρ q.S) (fun o q σ' H' => outP cm W D o q σ' H'), ⟨n, p, ok, h⟩, ?_⟩
    rintro m σ H ⟨q, okq, hq⟩
    cases m with
    | zero => exact absurd hq id
    | succ m =>
      unfold whileS at hq
      refine ⟨q, okq, ?_⟩
      cases e : fc q.ρ q.S with
      | no => rw [e] at hq; exact hq
      | er x S1 => rw [e] at hq; exact fun D1 H1 w s => hq D1 q.Ow σ H1 (okq.on w s) s
      | ok t S1 =>
        rw [e] at hq
        intro D1 H1 w1 s1
        cases t with
        | false => exact hq D1 q.Ow σ H1 (okq.on w1 s1) s1
        | true =>
          refine ⟨fun σ' H' => ∃ q : Pk, q.Ok cm σ' H' ∧ finS cm q (whileS fc fb m q.ρ q.S) (fun o q σ' H' => outP cm W D o q σ' H'), fun σ' H' z => ⟨m, Nat.lt_succ_self _, z⟩, ⟨⟨q.A, S1, D1, q.Ow, q.Fr, q.ρ⟩, okq.on w1 s1, ?_⟩⟩
          dsimp only at hq ⊢
          cases e4 : fb q.ρ S1 with
          | none => rw [e4] at hq; exact hq
          | some t =>
            obtain ⟨o, ρ2, S2⟩ := t
            rw [e4] at hq
            intro D3 Ow3 σ3 H3 ok3 s3
            cases o with
            | nx => exact ⟨_, ok3, finS.on hq rfl rfl (s1.trans s3)⟩
            | ct => exact ⟨_, ok3, finS.on hq rfl rfl (s1.trans s3)⟩
            | bk => exact hq D3 Ow3 σ3 H3 ok3 (s1.trans s3)
            | rt x => exact hq D3 Ow3 σ3 H3 ok3 (s1.trans s3)
            | er x => exact hq D3 Ow3 σ3 H3 ok3 (s1.trans s3)
end
end Sm

set_option maxHeartbeats 4000000
namespace Sm
open PySem PySem.Spec PyProof.Rows L2 Lf

/-! ## objects that stay away -/
section
variable {cm : CM} {A : List Addr} {S : Sto} {D : Hp} {F F' Ow Fr : List (Addr × HO)} {H : Hp} {a : Addr} {o o' : HO}
theorem Wd.perm (w : Wd cm A S D F H) (h : F.Perm F') : Wd cm A S D F' H :=
  ⟨w.sub, fun q hq => w.frs q (h.mem_iff.mpr hq), (h.map Prod.fst).nodup_iff.mp w.ndF, w.cel, w.out, w.ndA, w.len⟩
theorem Wd.newM (w : Wd cm A S D (Ow ++ Fr) H) (np : H a = none) (o : HO) : Wd cm A S D (Ow ++ (a, o) :: Fr) (upd H a o) := (w.newF np o).perm List.perm_middle.symm
theorem Wd.at_ (w : Wd cm A S D (Ow ++ (a, o) :: Fr) H) : H a = some o ∧ D a = none ∧ a ∉ A := w.frs (a, o) (List.mem_append_right _ List.mem_cons_self)
theorem Wd.off (w : Wd cm A S D (Ow ++ (a, o) :: Fr) H) {q : Addr × HO} (hq : q ∈ Ow ++ Fr) : q.1 ≠ a := fun z => by
  have nd := (w.perm List.perm_middle).ndF
  rw [List.map_cons, List.nodup_cons] at nd
  exact nd.1 (List.mem_map.mpr ⟨q, hq, z⟩)
theorem Wd.cell_ne (w : Wd cm A S D F H) (hA : a ∉ A) {n : Nat} {b : Addr} (e : A[n]? = some b) : b ≠ a := fun z => hA (z ▸ List.mem_of_getElem? e)
/-- the object is written -/
theorem Wd.up (w : Wd cm A S D (Ow ++ (a, o) :: Fr) H) (o' : HO) : Wd cm A S D (Ow ++ (a, o') :: Fr) (upd H a o') := by
  obtain ⟨h1, h2, h3⟩ := w.at_
  refine Wd.perm ?_ List.perm_middle.symm
  have nd := (w.perm List.perm_middle).ndF
  refine ⟨fun b u e => ?_, fun q hq => ?_, nd, fun n ds e => ?_, w.out, w.ndA, w.len⟩
  · rw [upd_ne (fun z => by rw [z, h2] at e; cases e)]
    exact w.sub _ _ e
  · rcases List.mem_cons.mp hq with rfl | hq
    · exact ⟨upd_same, h2, h3⟩
    · have hq' : q ∈ Ow ++ (a, o) :: Fr := by
        rcases List.mem_append.mp hq with z | z
        · exact List.mem_append_left _ z
        · exact List.mem_append_right _ (List.mem_cons_of_mem _ z)
      obtain ⟨k1, k2, k3⟩ := w.frs q hq'
      exact ⟨by rw [upd_ne (w.off hq)]; exact k1, k2, k3⟩
  · obtain ⟨b, xs, k1, k2, k3⟩ := w.cel n ds e
    exact ⟨b, xs, k1, by rw [upd_ne (w.cell_ne h3 k1)]; exact k2, k3⟩
/-- the object becomes data -/
theorem Wd.toD (w : Wd cm A S D (Ow ++ (a, o) :: Fr) H) : Wd cm A S (upd D a o) (Ow ++ Fr) H ∧ Same D (upd D a o) := by
  obtain ⟨h1, h2, h3⟩ := w.at_
  have sD : Same D (upd D a o) := same_new h2 o
  have w' := w.perm List.perm_middle
  have nd := w'.ndF
  rw [List.map_cons, List.nodup_cons] at nd
  refine ⟨⟨fun b u e => ?_, fun q hq => ?_, nd.2, fun n ds e => ?_, fun b hb => ?_, w.ndA, w.len⟩, sD⟩
  · by_cases hb : b = a
    · subst hb
      rw [upd_same] at e
      rw [h1]
      exact e
    · rw [upd_ne hb] at e
      exact w.sub _ _ e
  · obtain ⟨k1, k2, k3⟩ := w'.frs q (List.mem_cons_of_mem _ hq)
    exact ⟨k1, by rw [upd_ne (w.off hq)]; exact k2, k3⟩
  · obtain ⟨b, xs, k1, k2, k3⟩ := w.cel n ds e
    exact ⟨b, xs, k1, k2, k3.mono sD⟩
  · rw [upd_ne (fun z : b = a => h3 (z ▸ hb))]
    exact w.out b hb
/-- the object is forgotten -/
theorem Wd.drop (w : Wd cm A S D (Ow ++ (a, o) :: Fr) H) : Wd cm A S D (Ow ++ Fr) H := by
  have w' := w.perm List.perm_middle
  have nd := w'.ndF
  rw [List.map_cons, List.nodup_cons] at nd
  exact ⟨w.sub, fun q hq => w'.frs q (List.mem_cons_of_mem _ hq), nd.2, w.cel, w.out, w.ndA, w.len⟩
theorem Wd.dropL (w : Wd cm A S D (Ow ++ Fr) H) : Wd cm A S D Fr H := by
  have nd := w.ndF
  rw [List.map_append] at nd
  exact ⟨w.sub, fun q hq => w.frs q (List.mem_append_right _ hq), (List.nodup_append.mp nd).2.1, w.cel, w.out, w.ndA, w.len⟩
end

/-! ## names that are wiped -/
def wipeE (ρ : Env) : List Nat → Env
  | [] => ρ
  | v :: vs => (wipeE ρ vs).set v none
theorem Er.wipe {cm : CM} {A : List Addr} {D : Hp} {Ow : List (Addr × HO)} {ρ : Env} {σ : L2.St} (h : Er cm A D Ow ρ σ) : ∀ vs : List Nat, Er cm A D Ow (wipeE ρ vs) (wipe σ vs)
  | [] => h
  | v :: vs => (h.wipe vs).unset
theorem But.wipe {is vs : List Nat} {σ σ' : L2.St} (b : But is (L2.wipe σ vs) σ') (h : ∀ i ∈ is, i ∈ vs) : L2.wipe σ' vs = L2.wipe σ vs := by
  have key : ∀ i ∈ vs, ∀ τ : L2.St, i < τ.length → (L2.wipe τ vs)[i]? = some none := by
    clear h b
    induction vs with
    | nil => intro i hi; cases hi
    | cons v vs ih =>
      intro i hi τ hl
      unfold L2.wipe
      rw [List.getElem?_set]
      by_cases hv : v = i
      · rw [if_pos hv, if_pos (by rw [wipe_length]; omega)]
      · rw [if_neg hv]
        exact ih i ((List.mem_cons.mp hi).resolve_left fun z => hv z.symm) τ hl
  have hl : σ'.length = σ.length := by rw [b.len, wipe_length]
  refine List.ext_getElem? fun i => ?_
  by_cases hi : i ∈ vs
  · by_cases hlt : i < σ.length
    · rw [key i hi σ' (by omega), key i hi σ hlt]
    · rw [List.getElem?_eq_none (by rw [wipe_length]; omega), List.getElem?_eq_none (by rw [wipe_length]; omega)]
  · rw [wipe_out hi, b.at' i fun z => hi (h i z)]
theorem But.wipe2 {is vs vs1 : List Nat} {σ σ' : L2.St} (b : But is (L2.wipe σ vs1) σ') (h : ∀ i ∈ is, i ∈ vs1) : L2.wipe σ' vs1 = L2.wipe σ vs1 := b.wipe h

/-! ## comprehensions -/
def R.quiet {α : Type} : R α → R α
  | .er _ _ => .no
  | r => r
def yesT : Env → M Bool := fun _ S => .ok true S
def consD (r : R (List PyData)) (y : PyData) : R (List PyData) := match r with
  | .ok ys S => .ok (y :: ys) S
  | .er e S => .er e S
  | .no => .no
def appD (r : R (List PyData)) (zs : List PyData) : R (List PyData) := match r with
  | .ok ys S => .ok (zs ++ ys) S
  | .er e S => .er e S
  | .no => .no
def cL (pt : Tg) (tt : Env → M Bool) (elt : Ex) (vs : List Nat) (ρ : Env) : List PyData → M (List PyData)
  | [] => fun S => .ok [] S
  | d :: ds => fun S => match asg pt d (wipeE ρ vs) with
    | none => .no
    | some ρ1 => match tt ρ1 S with
      | .ok true S1 => match elt ρ1 S1 with
        | .ok (.d y) S2 => consD (cL pt tt elt vs ρ ds S2) y
        | _ => .no
      | .ok false S1 => cL pt tt elt vs ρ ds S1
      | _ => .no
def cL2 (pt : Tg) (tt : Env → M Bool) (fi1 : Ix) (pt1 : Tg) (tt1 : Env → M Bool) (elt : Ex) (vs vs1 : List Nat) (ρ : Env) : List PyData → M (List PyData)
  | [] => fun S => .ok [] S
  | d :: ds => fun S => match asg pt d (wipeE ρ vs) with
    | none => .no
    | some ρ1 => match tt ρ1 S with
      | .ok true S1 => match fi1 ρ1 S1 with
        | .ok ds1 S2 => match cL pt1 tt1 elt vs1 ρ1 ds1 S2 with
          | .ok ys S3 => appD (cL2 pt tt fi1 pt1 tt1 elt vs vs1 ρ ds S3) ys
          | _ => .no
        | _ => .no
      | .ok false S1 => cL2 pt tt fi1 pt1 tt1 elt vs vs1 ρ ds S1
      | _ => .no
def lim (r : R (List PyData)) : R Vl := match r with
  | .ok ys S => if ys.length ≤ big then .ok (.d (.list ys)) S else .no
  | _ => .no
def eComp (pt : Tg) (fi : Ix) (tt : Env → M Bool) (elt : Ex) (vs : List Nat) : Ex := fun ρ S => (fi ρ S).bind fun ds S1 => lim (cL pt tt elt vs ρ ds S1)
def eComp2 (pt : Tg) (fi : Ix) (tt : Env → M Bool) (fi1 : Ix) (pt1 : Tg) (tt1 : Env → M Bool) (elt : Ex) (vs vs1 : List Nat) : Ex := fun ρ S => (fi ρ S).bind fun ds S1 => lim (cL2 pt tt fi1 pt1 tt1 elt vs vs1 ρ ds S1)
abbrev W0 : WX := fun _ _ _ _ => False
abbrev GTs (X : Cx) (cm : CM) (W : WX) (es : List Expr) (f : Env → M Bool) : Prop := PTs X es (tT cm W f)
theorem pts_imp {X : Cx} {es : List Expr} {t t' : TT} (h : PTs X es t) (k : ∀ σ H Q, t' σ H Q → t σ H Q) : PTs X es t' := ⟨fun pins s σ H Q I q => h.run pins s σ H Q I (k _ _ _ q)⟩
theorem gts_nil {X : Cx} {cm : CM} {W : WX} : GTs X cm W [] yesT := pts_imp pts_nil fun σ H Q ⟨p, ok, h⟩ => h p.D H ok.wd (.refl _)
theorem gts_one {X : Cx} {cm : CM} {W : WX} {c : Expr} {f : Env → M Bool} (h : GT X cm W c f) : GTs X cm W [c] f := pts_one h
theorem lim_inv {cm : CM} {A : List Addr} {D : Hp} {F : List (Addr × HO)} {r : R (List PyData)} {okP : Vl → Sto → Hp → Hp → Prop} {erP : Exn → Sto → Hp → Hp → Prop} (h : fin cm A F D (lim r) okP erP) : ∃ ys S', r = .ok ys S' ∧ ys.length ≤ big ∧ ∀ D' H', Wd cm A S' D' F H' → Same D D' → okP (.d (.list ys)) S' D' H' := by
  unfold lim at h
  split at h
  · split at h
    · exact ⟨_, _, rfl, ‹_›, h⟩
    · exact absurd h id
  · exact absurd h id
theorem consD_ok {r : R (List PyData)} {y : PyData} {zs : List PyData} {S' : Sto} (h : consD r y = .ok zs S') : ∃ ys, r = .ok ys S' ∧ zs = y :: ys := by
  unfold consD at h
  split at h
  · cases h
    exact ⟨_, rfl, rfl⟩
  · cases h
  · cases h
theorem appD_ok {r : R (List PyData)} {ys : List PyData} {zs : List PyData} {S' : Sto} (h : appD r ys = .ok zs S') : ∃ us, r = .ok us S' ∧ zs = ys ++ us := by
  unfold appD at h
  split at h
  · cases h
    exact ⟨_, rfl, rfl⟩
  · cases h
  · cases h
section
variable {cm : CM} {pt : Tg} {tt : Env → M Bool} {elt : Ex} {vs : List Nat} {ρ : Env} {A : List Addr} {Ow Fr : List (Addr × HO)} {σ : L2.St} {L : Addr}
/-- the turn of a clause: what is left to come is ysR, the list in the making holds acc; behind it nxt -/
theorem comp_turn {d : PyData} {ds : List PyData} {S S' : Sto} {D D0 : Hp} {acc : List V} {dacc ysR : List PyData} {H H' : Hp} {v : V} {ext : Nat} (er : Er cm A D0 Ow ρ σ) (s0 : Same D0 D) (w : Wd cm A S D (Ow ++ (L, .lst acc) :: Fr) H') (hv : Dv cm D v d) (ha : DvA cm D acc dacc)
    (hc : cL pt tt elt vs ρ (d :: ds) S = .ok ysR S') (hb : dacc.length + ysR.length ≤ big) (hsl : ∀ i ∈ pt.slots, i ∈ vs) (nxt : Hp → Prop)
    (hn : ∀ S1 D1 H1 acc1 dacc1 ysR1, Wd cm A S1 D1 (Ow ++ (L, .lst acc1) :: Fr) H1 → Same D D1 → DvA cm D1 acc1 dacc1 → cL pt tt elt vs ρ ds S1 = .ok ysR1 S' → dacc1 ++ ysR1 = dacc ++ ysR → nxt H1) :
    tG cm pt v (wipe σ vs) H' fun σ2 H2 => wipe σ2 vs = wipe σ vs ∧ tT cm W0 tt σ2 H2 fun b H3 => if b = true then tE cm W0 elt σ2 H3 fun y H4 => ∃ acc, H4 L = some (.lst acc) ∧ acc.length < sizeLine ∧ nxt (upd H4 L (.lst (acc ++ [y]))) else nxt H3 := by
  unfold cL at hc
  cases e1 : asg pt d (wipeE ρ vs) with
  | none => rw [e1] at hc; cases hc
  | some ρ1 =>
    rw [e1] at hc
    refine ⟨⟨A, S, D, Ow, (L, .lst acc) :: Fr, wipeE ρ vs⟩, d, ρ1, ⟨w, (er.mono s0).wipe vs⟩, hv, e1, fun σ2 er2 b2 => ⟨b2.wipe hsl, ⟨A, S, D, Ow, (L, .lst acc) :: Fr, ρ1⟩, ⟨w, er2⟩, ?_⟩⟩
    dsimp only at hc ⊢
    cases e2 : tt ρ1 S with
    | no => rw [e2] at hc; cases hc
    | er e S1 => rw [e2] at hc; cases hc
    | ok b S1 =>
      rw [e2] at hc
      intro D1 H1 w1 s1
      cases b with
      | false =>
        rw [if_neg Bool.false_ne_true]
        exact hn S1 D1 H1 acc dacc ysR w1 s1 (ha.mono s1) hc rfl
      | true =>
        rw [if_pos rfl]
        refine ⟨⟨A, S1, D1, Ow, (L, .lst acc) :: Fr, ρ1⟩, ⟨w1, er2.mono s1⟩, ?_⟩
        dsimp only at hc ⊢
        cases e3 : elt ρ1 S1 with
        | no => rw [e3] at hc; cases hc
        | er e S2 => rw [e3] at hc; cases hc
        | ok x S2 =>
          rw [e3] at hc
          cases x with
          | c n => cases hc
          | o zs => cases hc
          | m t ps => cases hc
          | d y =>
            obtain ⟨us, e4, rfl⟩ := consD_ok hc
            intro D2 H2 w2 s2 yv hy
            have hl : acc.length = dacc.length := ha.length
            refine ⟨acc, w2.at_.1, by rw [hl]; exact big_le (by rw [List.length_cons] at hb; omega), hn S2 D2 _ (acc ++ [yv]) (dacc ++ [y]) us (w2.up _) (s1.trans s2) ((ha.mono (s1.trans s2)).append (.cons hy .nil)) e4 (by simp)⟩
end
/-- a clause within a clause -/
theorem lc_it0 {J : It} {n : Nat} {G : Hp → Prop} {Y : Nat → Hp → V → Hp → Prop} (w : Walk J n G Y) {g : TG} {tt : TT} {te : TE} {vs : List Nat} {σ : L2.St} {H0 : Hp} {D : Addr} {Nx : Hp → Prop} (Pv : Nat → Hp → Prop) (h0 : Pv 0 H0) (hG : ∀ i H, i ≤ n → Pv i H → G H)
    (hs : ∀ i x H H', i < n → Pv i H → Y i H x H' → g x (wipe σ vs) H' fun σ2 H2 => wipe σ2 vs = wipe σ vs ∧ tt σ2 H2 fun b H3 =>
      if b = true then te σ2 H3 fun y H4 => ∃ acc, H4 D = some (.lst acc) ∧ acc.length < sizeLine ∧ Pv (i + 1) (upd H4 D (.lst (acc ++ [y]))) else Pv (i + 1) H3) (hd : ∀ H, Pv n H → Nx H) :
    ∃ W1 : Nat → Nat → Hp → Prop, (∃ m, W1 0 m H0) ∧ ∀ j k H, W1 j k H →
      (J.stop j H ∧ Nx H) ∨ (J.go j H ∧ ∃ Nx1 : Hp → Prop, (∀ H', Nx1 H' → ∃ k', k' < k ∧ W1 (j + 1) k' H') ∧ ∀ x H', J.yld j H x H' → g x (wipe σ vs) H' fun σ3 H5 => wipe σ3 vs = wipe σ vs ∧ tt σ3 H5 fun b H6 =>
        if b = true then te σ3 H6 fun y H7 => ∃ acc, H7 D = some (.lst acc) ∧ acc.length < sizeLine ∧ Nx1 (upd H7 D (.lst (acc ++ [y]))) else Nx1 H6) := by
  refine ⟨fun i m H => m = n - i ∧ i ≤ n ∧ Pv i H, ⟨n, by simp, Nat.zero_le _, h0⟩, ?_⟩
  rintro i m H ⟨rfl, hi, p⟩
  have q := hG i H hi p
  by_cases hlt : i < n
  · refine .inr ⟨w.goes i H hlt q, Pv (i + 1), fun H' p' => ⟨n - (i + 1), by omega, rfl, hlt, p'⟩, fun x H' y => hs i x H H' hlt p (w.yields i H x H' hlt q y)⟩
  · have e : i = n := by omega
    subst e
    exact .inl ⟨w.stops H q, hd H p⟩
section
variable {X : Cx} {cm : CM} {W : WX} {elt tg iter tg1 iter1 : Expr} {ifs ifs1 : List Expr} {scope : Scope} {own : List (Str × Nat)} {vs1 : List Nat} {pos : Pos} {pt pt1 : Tg} {fi fi1 : Ix} {tt tt1 : Env → M Bool} {fe : Ex}
theorem comp_red {vs : List Nat} {σ : L2.St} {H : Hp} {Q : VK} (hsl : ∀ i ∈ pt.slots, i ∈ vs) (h : tE cm W (eComp pt fi tt fe vs) σ H Q) : tLc (tI cm W fi) (tG cm pt) (tT cm W0 tt) (tE cm W0 fe) vs σ H Q := by
  obtain ⟨p, ok, h⟩ := h
  exact ⟨p, ok, (fin.bind h).imp (fun ds S1 D1 H1 w1 s1 k J yl L nL => by
    obtain ⟨ys, S', e, hl, k2⟩ := lim_inv k
    refine lc_it yl (fun i H => ∃ S D acc dacc ysR, Wd cm p.A S D (p.Ow ++ (L, .lst acc) :: p.Fr) H ∧ Same D1 D ∧ DvA cm D acc dacc ∧ cL pt tt fe (vs) p.ρ (ds.drop i) S = .ok ysR S' ∧ dacc ++ ysR = ys) ⟨S1, D1, [], [], ys, w1.newM nL _, .refl _, .nil, e, rfl⟩
      (fun i H _ ⟨S, D, acc, dacc, ysR, w, s, _⟩ => ⟨_, _, _, _, w, s⟩) (fun i x H H' hi ⟨S, D, acc, dacc, ysR, w, s, ha, hc, hz⟩ y => ?_) (fun H ⟨S, D, acc, dacc, ysR, w, s, ha, hc, hz⟩ => ?_)
    · obtain ⟨D2, d, e2, w2, s2, hv⟩ := y _ _ _ _ w s
      rw [List.drop_eq_getElem_cons hi, show ds[i] = d from (List.getElem_eq_iff hi).mpr e2] at hc
      refine comp_turn (ext := 0) (H := H) (ok.er.mono s1) (s.trans s2) w2 hv (ha.mono s2) hc (by rw [← List.length_append, hz]; exact hl) hsl _ (fun S3 D3 H3 acc3 dacc3 ysR3 w3 s3 ha3 hc3 hz3 => ⟨S3, D3, acc3, dacc3, ysR3, w3, s.trans (s2.trans s3), ha3, hc3, hz3.trans hz⟩)
    · rw [List.drop_length] at hc
      unfold cL at hc
      cases hc
      rw [List.append_nil] at hz
      subst hz
      obtain ⟨w', s'⟩ := w.toD
      exact k2 _ _ w' (s.trans s') _ (.lst upd_same (ha.mono s'))) fun _ _ _ _ _ _ z => z⟩
theorem comp2_red {vs : List Nat} {σ : L2.St} {H : Hp} {Q : VK} (hsl : ∀ i ∈ pt.slots, i ∈ vs) (hsl1 : ∀ i ∈ pt1.slots, i ∈ vs1) (h : tE cm W (eComp2 pt fi tt fi1 pt1 tt1 fe vs vs1) σ H Q) : tLc2 (tI cm W fi) (tG cm pt) (tT cm W0 tt) (tI cm W0 fi1) (tG cm pt1) (tT cm W0 tt1) (tE cm W0 fe) vs vs1 σ H Q := by
  obtain ⟨p, ok, h⟩ := h
  exact ⟨p, ok, (fin.bind h).imp (fun ds S1 D1 H1 w1 s1 k J yl L nL => by
    obtain ⟨ys, S', e, hl, k2⟩ := lim_inv k
    refine ⟨fun i m H => m = ds.length - i ∧ i ≤ ds.length ∧ ∃ S D acc dacc ysR, Wd cm p.A S D (p.Ow ++ (L, .lst acc) :: p.Fr) H ∧ Same D1 D ∧ DvA cm D acc dacc ∧ cL2 pt tt fi1 pt1 tt1 fe (vs) vs1 p.ρ (ds.drop i) S = .ok ysR S' ∧ dacc ++ ysR = ys, ⟨ds.length, by simp, Nat.zero_le _, S1, D1, [], [], ys, w1.newM nL _, .refl _, .nil, e, rfl⟩, ?_⟩
    rintro i m H ⟨rfl, hi, S, D, acc, dacc, ysR, w, s, ha, hc, hz⟩
    by_cases hlt : i < ds.length
    · refine .inr ⟨yl.goes i H hlt ⟨_, _, _, _, w, s⟩, fun H => i + 1 ≤ ds.length ∧ ∃ S D acc dacc ysR, Wd cm p.A S D (p.Ow ++ (L, .lst acc) :: p.Fr) H ∧ Same D1 D ∧ DvA cm D acc dacc ∧ cL2 pt tt fi1 pt1 tt1 fe (vs) vs1 p.ρ (ds.drop (i + 1)) S = .ok ysR S' ∧ dacc ++ ysR = ys, fun H' z => ⟨ds.length - (i + 1), by omega, rfl, z.1, z.2⟩, fun x H' y => ?_⟩
      obtain ⟨D2, d, e2, w2, s2, hv2⟩ := yl.yields i H x H' hlt ⟨_, _, _, _, w, s⟩ y _ _ _ _ w s
      rw [List.drop_eq_getElem_cons hlt, show ds[i] = d from (List.getElem_eq_iff hlt).mpr e2] at hc
      unfold cL2 at hc
      cases e1 : asg pt d (wipeE p.ρ (vs)) with
      | none => rw [e1] at hc; cases hc
      | some ρ1 =>
        rw [e1] at hc
        refine ⟨⟨p.A, S, D2, p.Ow, (L, .lst acc) :: p.Fr, wipeE p.ρ (vs)⟩, d, ρ1, ⟨w2, ((ok.er.mono s1).mono (s.trans s2)).wipe _⟩, hv2, e1, fun σ2 er2 b2 => ⟨b2.wipe hsl, ⟨p.A, S, D2, p.Ow, (L, .lst acc) :: p.Fr, ρ1⟩, ⟨w2, er2⟩, ?_⟩⟩
        dsimp only at hc ⊢
        cases e3 : tt ρ1 S with
        | no => rw [e3] at hc; cases hc
        | er e S1 => rw [e3] at hc; cases hc
        | ok b S3 =>
          rw [e3] at hc
          intro D3 H3 w3 s3
          cases b with
          | false =>
            rw [if_neg Bool.false_ne_true]
            exact ⟨hlt, S3, D3, acc, dacc, ysR, w3, s.trans (s2.trans s3), ha.mono (s2.trans s3), hc, hz⟩
          | true =>
            rw [if_pos rfl]
            refine ⟨⟨p.A, S3, D3, p.Ow, (L, .lst acc) :: p.Fr, ρ1⟩, ⟨w3, er2.mono s3⟩, ?_⟩
            dsimp only at hc ⊢
            cases e4 : fi1 ρ1 S3 with
            | no => rw [e4] at hc; cases hc
            | er e S1 => rw [e4] at hc; cases hc
            | ok ds1 S4 =>
              rw [e4] at hc
              dsimp only at hc
              cases e5 : cL pt1 tt1 fe vs1 ρ1 ds1 S4 with
              | no => rw [e5] at hc; cases hc
              | er e S1 => rw [e5] at hc; cases hc
              | ok zs S5 =>
                rw [e5] at hc
                obtain ⟨us, e6, rfl⟩ := appD_ok hc
                intro D4 H4 w4 s4 J1 yl1
                have hzl : dacc.length + zs.length ≤ big := by
                  have := congrArg List.length hz
                  rw [List.length_append, List.length_append] at this
                  omega
                refine lc_it0 yl1 (fun j H => ∃ S D acc5 dacc5 zsR, Wd cm p.A S D (p.Ow ++ (L, .lst acc5) :: p.Fr) H ∧ Same D4 D ∧ DvA cm D acc5 dacc5 ∧ cL pt1 tt1 fe vs1 ρ1 (ds1.drop j) S = .ok zsR S5 ∧ dacc5 ++ zsR = dacc ++ zs) ⟨S4, D4, acc, dacc, zs, w4, .refl _, (ha.mono (s2.trans (s3.trans s4))), e5, rfl⟩
                  (fun j H _ ⟨S, D, acc, dacc, ysR, w, s, _⟩ => ⟨_, _, _, _, w, s⟩) (fun j x H H' hj ⟨S6, D6, acc6, dacc6, zsR, w6, s6, ha6, hc6, hz6⟩ y => ?_) (fun H ⟨S6, D6, acc6, dacc6, zsR, w6, s6, ha6, hc6, hz6⟩ => ?_)
                · obtain ⟨D7, d7, e7, w7, s7, hv7⟩ := y _ _ _ _ w6 s6
                  rw [List.drop_eq_getElem_cons hj, show ds1[j] = d7 from (List.getElem_eq_iff hj).mpr e7] at hc6
                  refine comp_turn (ext := 0) (H := H) (er2.mono (s3.trans s4)) (s6.trans s7) w7 hv7 (ha6.mono s7) hc6 (by rw [← List.length_append, hz6, List.length_append]; exact hzl) hsl1 _ (fun S8 D8 H8 acc8 dacc8 ysR8 w8 s8 ha8 hc8 hz8 => ⟨S8, D8, acc8, dacc8, ysR8, w8, s6.trans (s7.trans s8), ha8, hc8, hz8.trans hz6⟩)
                · rw [List.drop_length] at hc6
                  unfold cL at hc6
                  cases hc6
                  rw [List.append_nil] at hz6
                  subst hz6
                  exact ⟨hlt, _, D6, acc6, _, us, w6, s.trans (s2.trans (s3.trans (s4.trans s6))), ha6, e6, by rw [List.append_assoc]; exact hz⟩
    · have e0 : i = ds.length := by omega
      subst e0
      refine .inl ⟨yl.stops H ⟨_, _, _, _, w, s⟩, ?_⟩
      rw [List.drop_length] at hc
      unfold cL2 at hc
      cases hc
      rw [List.append_nil] at hz
      subst hz
      obtain ⟨w', s'⟩ := w.toD
      exact k2 _ _ w' (s.trans s') _ (.lst upd_same (ha.mono s'))) fun _ _ _ _ _ _ z => z⟩
theorem g_comp (hc : X.calm = true) (hN : X.N.Nodup) (hi : GI X cm W tg iter fi) (ok : BlkOk X.N X.env.scope scope own)
    (hg : ∀ (s : Shared) (H : Hp) (C : Addr) (cl : List (Str × Addr)) (fp : List Addr), GG (X.blk s H scope (compEnvC scope cl C X.env) fp) cm tg pt) (ht : ∀ (s : Shared) (H : Hp) (C : Addr) (cl : List (Str × Addr)) (fp : List Addr), GTs (X.blk s H scope (compEnvC scope cl C X.env) fp) cm W0 ifs tt)
    (he : ∀ (s : Shared) (H : Hp) (C : Addr) (cl : List (Str × Addr)) (fp : List Addr), GE (X.blk s H scope (compEnvC scope cl C X.env) fp) cm W0 elt fe) (hsl : ∀ i ∈ pt.slots, i ∈ own.map (·.2) := by decide) (hs : ∀ x, foldedSetIterable iter X.env x = pure x := by intro _; rfl) :
    GE X cm W (.ListComp elt [⟨tg, iter, ifs, 0⟩] scope pos) (eComp pt fi tt fe (own.map (·.2))) :=
  pe_imp (pe_lc hc hN hi ok hg ht he hs) fun σ H Q h => comp_red hsl h
theorem g_comp2 (hc : X.calm = true) (hN : X.N.Nodup) (hi : GI X cm W tg iter fi) (ok : BlkOk X.N X.env.scope scope own) (hv : ∀ i ∈ vs1, i ∈ own.map (·.2))
    (hg : ∀ (s : Shared) (H : Hp) (C : Addr) (cl : List (Str × Addr)) (fp : List Addr), GG (X.blk s H scope (compEnvC scope cl C X.env) fp) cm tg pt) (ht : ∀ (s : Shared) (H : Hp) (C : Addr) (cl : List (Str × Addr)) (fp : List Addr), GTs (X.blk s H scope (compEnvC scope cl C X.env) fp) cm W0 ifs tt)
    (hi1 : ∀ (s : Shared) (H : Hp) (C : Addr) (cl : List (Str × Addr)) (fp : List Addr), GI (X.blk s H scope (compEnvC scope cl C X.env) fp) cm W0 tg1 iter1 fi1)
    (hg1 : ∀ (s : Shared) (H : Hp) (C : Addr) (cl : List (Str × Addr)) (fp : List Addr), GG (X.blk s H scope (compEnvC scope cl C X.env) fp) cm tg1 pt1) (ht1 : ∀ (s : Shared) (H : Hp) (C : Addr) (cl : List (Str × Addr)) (fp : List Addr), GTs (X.blk s H scope (compEnvC scope cl C X.env) fp) cm W0 ifs1 tt1)
    (he : ∀ (s : Shared) (H : Hp) (C : Addr) (cl : List (Str × Addr)) (fp : List Addr), GE (X.blk s H scope (compEnvC scope cl C X.env) fp) cm W0 elt fe) (hsl : ∀ i ∈ pt.slots, i ∈ own.map (·.2) := by decide) (hsl1 : ∀ i ∈ pt1.slots, i ∈ vs1 := by decide) (hs : ∀ x, foldedSetIterable iter X.env x = pure x := by intro _; rfl) (hs1 : ∀ env x, foldedSetIterable iter1 env x = pure x := by intro _ _; rfl) :
    GE X cm W (.ListComp elt [⟨tg, iter, ifs, 0⟩, ⟨tg1, iter1, ifs1, 0⟩] scope pos) (eComp2 pt fi tt fi1 pt1 tt1 fe (own.map (·.2)) vs1) :=
  pe_imp (pe_lc2 hc hN hi ok hv hg ht hi1 hg1 ht1 he hs hs1) fun σ H Q h => comp2_red hsl hsl1 h
/-- x = [..], the new list's own road -/
theorem gs_setLc {i : Nat} {y : Str} {py spos : Pos} (hc : X.calm = true) (hN : X.N.Nodup) (hy : X.N[i]? = some y) (hyl : X.env.scope.names.lookup y = some .local)
    (hsw : swapsWith (.ListComp elt [⟨tg, iter, ifs, 0⟩] scope pos) (some (.Name y py)) spos.line X.env = pure true) (hi : GI X cm W tg iter fi) (ok : BlkOk X.N X.env.scope scope own)
    (hg : ∀ (s : Shared) (H : Hp) (C : Addr) (cl : List (Str × Addr)) (fp : List Addr), GG (X.blk s H scope (compEnvC scope cl C X.env) fp) cm tg pt) (ht : ∀ (s : Shared) (H : Hp) (C : Addr) (cl : List (Str × Addr)) (fp : List Addr), GTs (X.blk s H scope (compEnvC scope cl C X.env) fp) cm W0 ifs tt)
    (he : ∀ (s : Shared) (H : Hp) (C : Addr) (cl : List (Str × Addr)) (fp : List Addr), GE (X.blk s H scope (compEnvC scope cl C X.env) fp) cm W0 elt fe) (hsl : ∀ i ∈ pt.slots, i ∈ own.map (·.2) := by decide) (hs : ∀ x, foldedSetIterable iter X.env x = pure x := by intro _; rfl) :
    GS X cm W (.Assign [.Name y py] (.ListComp elt [⟨tg, iter, ifs, 0⟩] scope pos) spos) (sSet i (eComp pt fi tt fe (own.map (·.2)))) :=
  ps_imp (ps_setLc hc hN hy hyl hsw hi ok hg ht he hs) fun D σ H ⟨p, ok, h⟩ => comp_red hsl ⟨p, ok, finE (W := W) (okQ := fun x S1 D1 H1 => ∀ v, VR cm p.A D1 p.Ow x v → D.nx (σ.set i (some v)) H1) ok h (fun x S1 D1 H1 _ ok1 s k v r => by
    split at k
    · rename_i hn
      exact k D1 p.Ow _ H1 ⟨ok1.wd, ok1.er.set r (notO_own hn)⟩ (.refl _)
    · exact absurd k id) fun e S1 D1 H1 z => z⟩
theorem gs_setLc2 {i : Nat} {y : Str} {py spos : Pos} (hc : X.calm = true) (hN : X.N.Nodup) (hy : X.N[i]? = some y) (hyl : X.env.scope.names.lookup y = some .local)
    (hsw : swapsWith (.ListComp elt [⟨tg, iter, ifs, 0⟩, ⟨tg1, iter1, ifs1, 0⟩] scope pos) (some (.Name y py)) spos.line X.env = pure true) (hi : GI X cm W tg iter fi) (ok : BlkOk X.N X.env.scope scope own) (hv : ∀ i ∈ vs1, i ∈ own.map (·.2))
    (hg : ∀ (s : Shared) (H : Hp) (C : Addr) (cl : List (Str × Addr)) (fp : List Addr), GG (X.blk s H scope (compEnvC scope cl C X.env) fp) cm tg pt) (ht : ∀ (s : Shared) (H : Hp) (C : Addr) (cl : List (Str × Addr)) (fp : List Addr), GTs (X.blk s H scope (compEnvC scope cl C X.env) fp) cm W0 ifs tt)
    (hi1 : ∀ (s : Shared) (H : Hp) (C : Addr) (cl : List (Str × Addr)) (fp : List Addr), GI (X.blk s H scope (compEnvC scope cl C X.env) fp) cm W0 tg1 iter1 fi1)
    (hg1 : ∀ (s : Shared) (H : Hp) (C : Addr) (cl : List (Str × Addr)) (fp : List Addr), GG (X.blk s H scope (compEnvC scope cl C X.env) fp) cm tg1 pt1) (ht1 : ∀ (s : Shared) (H : Hp) (C : Addr) (cl : List (Str × Addr)) (fp : List Addr), GTs (X.blk s H scope (compEnvC scope cl C X.env) fp) cm W0 ifs1 tt1)
    (he : ∀ (s : Shared) (H : Hp) (C : Addr) (cl : List (Str × Addr)) (fp : List Addr), GE (X.blk s H scope (compEnvC scope cl C X.env) fp) cm W0 elt fe) (hsl : ∀ i ∈ pt.slots, i ∈ own.map (·.2) := by decide) (hsl1 : ∀ i ∈ pt1.slots, i ∈ vs1 := by decide) (hs : ∀ x, foldedSetIterable iter X.env x = pure x := by intro _; rfl) (hs1 : ∀ env x, foldedSetIterable iter1 env x = pure x := by intro _ _; rfl) :
    GS X cm W (.Assign [.Name y py] (.ListComp elt [⟨tg, iter, ifs, 0⟩, ⟨tg1, iter1, ifs1, 0⟩] scope pos) spos) (sSet i (eComp2 pt fi tt fi1 pt1 tt1 fe (own.map (·.2)) vs1)) :=
  ps_imp (ps_setLc2 hc hN hy hyl hsw hi ok hv hg ht hi1 hg1 ht1 he hs hs1) fun D σ H ⟨p, ok, h⟩ => comp2_red hsl hsl1 ⟨p, ok, finE (W := W) (okQ := fun x S1 D1 H1 => ∀ v, VR cm p.A D1 p.Ow x v → D.nx (σ.set i (some v)) H1) ok h (fun x S1 D1 H1 _ ok1 s k v r => by
    split at k
    · rename_i hn
      exact k D1 p.Ow _ H1 ⟨ok1.wd, ok1.er.set r (notO_own hn)⟩ (.refl _)
    · exact absurd k id) fun e S1 D1 H1 z => z⟩
end
end Sm

set_option maxHeartbeats 4000000
namespace Sm
open PySem PySem.Spec PyProof.Rows L2 Lf

/-! ## defs -/
def retV : Vl → Vl
  | .o ds => .d (.list ds)
  | .m _ ps => .d (.dict ps)
  | x => x
def outR (r : Option (Out × Env × Sto)) : R Vl := match r with
  | some (.rt x, _, S) => .ok (retV x) S
  | some (.nx, _, S) => .ok (.d .none) S
  | some (.er e, _, S) => .er e S
  | _ => .no
/-- a def of n names, its body b -/
def runF (n : Nat) (b : Sx) : Fn := fun xs S => if xs.all notO then outR (b (xs.map some ++ List.replicate (n - xs.length) none) S) else .no
def spF (cm : CM) (n : Nat) (F : Fn) : Sp := fun vs H Q E => ∃ (A : List Addr) (S : Sto) (D : Hp) (Fr : List (Addr × HO)) (xs : List Vl), vs.length = n ∧ Wd cm A S D Fr H ∧ VRs cm A D [] xs vs ∧
  fin cm A Fr D (F xs S) (fun x _ D' H' => ∀ v, VR cm A D' [] x v → Q v H') (fun e _ D' H' => ∀ cl dd, XR cm D' H' e cl dd → E cl dd H')
theorem VRs.length {cm : CM} {A : List Addr} {D : Hp} {Ow : List (Addr × HO)} : ∀ {xs : List Vl} {vs : List V}, VRs cm A D Ow xs vs → xs.length = vs.length
  | _, _, .nil => rfl
  | _, _, .cons _ h => congrArg (· + 1) (VRs.length h)
theorem VRs.get {cm : CM} {A : List Addr} {D : Hp} {Ow : List (Addr × HO)} : ∀ {xs : List Vl} {vs : List V} {i : Nat} {x : Vl}, VRs cm A D Ow xs vs → xs[i]? = some x → ∃ v, vs[i]? = some v ∧ VR cm A D Ow x v
  | _, _, 0, _, .cons h _, e => by simp at e; subst e; exact ⟨_, rfl, h⟩
  | _, _, i + 1, _, .cons _ h, e => by
    obtain ⟨v, h1, h2⟩ := VRs.get (i := i) h (by simpa using e)
    exact ⟨v, by simpa using h1, h2⟩
  | _, _, _, _, .nil, e => by simp at e
theorem er_start {cm : CM} {A : List Addr} {D : Hp} {xs : List Vl} {vs : List V} {N : List Str} (h : VRs cm A D [] xs vs) (hn : xs.all notO = true) : Er cm A D [] (xs.map some ++ List.replicate (N.length - xs.length) none) (L2.start N vs) := by
  have hl := h.length
  have own : ∀ i, isOwn (xs.map some ++ List.replicate (N.length - xs.length) none)[i]? = false := fun i => by
    rw [List.getElem?_append]
    split
    · rw [List.getElem?_map]
      cases e : xs[i]? with
      | none => rfl
      | some x =>
        have hx := (List.all_eq_true.mp hn) x (List.mem_of_getElem? e)
        cases x with
        | o ds => cases hx
        | m t ps => cases hx
        | d _ => rfl
        | c _ => rfl
    · rw [List.getElem?_replicate]
      split <;> rfl
  refine ⟨?_, fun i x e => ?_, fun i j a _ h1 => by rw [own i] at h1; cases h1⟩
  · unfold L2.start
    simp only [List.length_append, List.length_map, List.length_replicate]
    omega
  · unfold L2.start
    rw [List.getElem?_append] at e ⊢
    rw [List.length_map] at e ⊢
    by_cases hi : i < xs.length
    · rw [if_pos hi, List.getElem?_map] at e
      rw [if_pos (by omega), List.getElem?_map]
      cases e1 : xs[i]? with
      | none => rw [e1] at e; cases e
      | some y =>
        rw [e1] at e
        cases e
        obtain ⟨v, h1, h2⟩ := h.get e1
        exact ⟨v, by rw [h1]; rfl, h2⟩
    · rw [if_neg hi, List.getElem?_replicate] at e
      split at e <;> cases e
/-- what is handed back -/
theorem ret_ok {cm : CM} {A : List Addr} {S : Sto} {D : Hp} {Ow Fr : List (Addr × HO)} {H : Hp} {x : Vl} {v : V} (w : Wd cm A S D (Ow ++ Fr) H) (r : VR cm A D Ow x v) : ∃ D', Wd cm A S D' Fr H ∧ Same D D' ∧ VR cm A D' [] (retV x) v := by
  cases x with
  | d y => exact ⟨D, w.dropL, .refl _, r⟩
  | c n => exact ⟨D, w.dropL, .refl _, r⟩
  | o ds =>
    obtain ⟨a, xs, rfl, hm, hd⟩ := r
    obtain ⟨O1, O2, e⟩ := List.append_of_mem hm
    rw [e] at w
    have w' : Wd cm A S D (O1 ++ (a, .lst xs) :: (O2 ++ Fr)) H := by rw [List.append_assoc, List.cons_append] at w; exact w
    obtain ⟨w2, s⟩ := w'.toD
    rw [← List.append_assoc] at w2
    exact ⟨_, w2.dropL, s, .lst upd_same (hd.mono s)⟩
  | m t ps =>
    obtain ⟨a, o, rfl, hm, hd⟩ := r
    obtain ⟨O1, O2, e⟩ := List.append_of_mem hm
    rw [e] at w
    have w' : Wd cm A S D (O1 ++ (a, o) :: (O2 ++ Fr)) H := by rw [List.append_assoc, List.cons_append] at w; exact w
    obtain ⟨w2, s⟩ := w'.toD
    rw [← List.append_assoc] at w2
    cases t with
    | false => obtain ⟨kvs, rfl, h3, h4⟩ := hd; exact ⟨_, w2.dropL, s, .dK (.inl upd_same) h3 (h4.mono s)⟩
    | true => obtain ⟨kvs, rfl, h3, h4⟩ := hd; exact ⟨_, w2.dropL, s, .dT upd_same h3 (h4.mono s)⟩
section
variable {P : Program} {w : World} {K : PySem.W.Frag} {mg : Str → Option Value} {base : Heap} {f : Addr} {fd : FuncData} {cm : CM}
/-- THE RULE for a def -/
theorem gfn {x qual : Str} {st : Stmt} {N ps : List Str} {k : Nat} {b : Sx} (F : L2.Fun K x qual st f fd) (S : FnScope N ps (defScope st))
    (hb : ∀ (cdv : Value) (A : Around) (outer : List PySem.Env) (s : Shared) (H : Hp) (E : XK), Room k (A.deeper (envOfC qual (defScope st) s.heap.objs.size f cdv)) → GSs (cxOf (L2.CX P w) P w K mg base N qual (defScope st) f cdv A outer s H E) cm (fun cls d _ H => E cls d H) (defBody st) b) :
    FnOk P w K mg base (L2.CX P w) (k + 1) f fd ps (spF cm ps.length (runF N.length b)) := by
  refine F.okX S (fun vs H Q E h => ?_) (fun cdv A outer s H vs Q E hr h => ?_)
  · obtain ⟨_, _, _, _, _, h, _⟩ := h
    exact h
  obtain ⟨A0, S0, D0, Fr, xs, hl, wd, hv, h⟩ := h
  refine ⟨_, hb cdv A outer s H E hr, ?_⟩
  unfold runF at h
  by_cases hn : xs.all notO = true
  · rw [if_pos hn] at h
    refine ⟨⟨A0, S0, D0, [], Fr, xs.map some ++ List.replicate (N.length - xs.length) none⟩, ⟨by rw [List.nil_append]; exact wd, er_start hv hn⟩, ?_⟩
    dsimp only
    cases e : b (xs.map some ++ List.replicate (N.length - xs.length) none) S0 with
    | none => rw [e] at h; exact h
    | some t =>
      obtain ⟨o, ρ', S'⟩ := t
      rw [e] at h
      intro D' Ow' σ' H' ok' s'
      cases o with
      | nx => exact h D' H' ok'.wd.dropL s' .non .non
      | bk => exact absurd h id
      | ct => exact absurd h id
      | rt x =>
        intro v r
        obtain ⟨D2, w2, s2, r2⟩ := ret_ok ok'.wd r
        exact h D2 H' w2 (s'.trans s2) v r2
      | er x => exact fun cl dd xr => h D' H' ok'.wd.dropL s' cl dd xr
  · rw [if_neg hn] at h
    exact absurd h id
end
/-- a def of the text, by what it does -/
def GF (P : Program) (w : World) (K : PySem.W.Frag) (mg : Str → Option Value) (base : Heap) (cm : CM) (k : Nat) (x : Str) (ps : List Str) (F : Fn) : Prop :=
  ∃ (f : Addr) (fd : FuncData), FnOk P w K mg base (L2.CX P w) k f fd ps (spF cm ps.length F) ∧ mg x = some (.ref f) ∧ PySem.W.keepIn K (.ref f) = true ∧ Binds K fd ps []
def callF (n : Nat) (F : Fn) : List Vl → M Vl := fun xs S => if xs.all notO && xs.length == n then F xs S else .no
theorem VRs.noO {cm : CM} {A : List Addr} {D : Hp} {Ow : List (Addr × HO)} : ∀ {xs : List Vl} {vs : List V}, xs.all notO = true → VRs cm A D Ow xs vs → VRs cm A D [] xs vs
  | _, _, _, .nil => .nil
  | .d x :: xs, _, h, .cons h1 h2 => .cons h1 (VRs.noO (by simpa [notO] using h) h2)
  | .c x :: xs, _, h, .cons h1 h2 => .cons h1 (VRs.noO (by simpa [notO] using h) h2)
  | .o x :: xs, _, h, .cons h1 h2 => by simp [notO] at h
  | .m t x :: xs, _, h, .cons h1 h2 => by simp [notO] at h
section
variable {X : Cx} {cm : CM} {W : WX} {k n : Nat} {x : Str} {ps : List Str} {F : Fn} {e : Expr} {es : List Expr} {fs : Exs} {p pos : Pos}
theorem call_fin {p : Pk} {σ : L2.St} {H : Hp} {Q : VK} {xs : List Vl} {S1 : Sto} {D1 : Hp} {vs : List V} (ok : Pk.Ok cm ⟨p.A, S1, D1, p.Ow, p.Fr, p.ρ⟩ σ H) (r : VRs cm p.A D1 p.Ow xs vs)
    (h : fin cm p.A (p.Ow ++ p.Fr) D1 (callF ps.length F xs S1) (fun x _ D' H' => ∀ v, VR cm p.A D' p.Ow x v → Q v H') (erW cm W σ)) : spF cm ps.length F vs H Q (WE W σ) := by
  unfold callF at h
  by_cases hn : (xs.all notO && xs.length == ps.length) = true
  · rw [if_pos hn] at h
    rw [Bool.and_eq_true, beq_iff_eq] at hn
    refine ⟨p.A, S1, D1, p.Ow ++ p.Fr, xs, by rw [← r.length]; exact hn.2, ok.wd, r.noO hn.1, h.imp (fun x S2 D2 H2 w2 s2 k v r2 => ?_) (fun e S2 D2 H2 w2 s2 k => k)⟩
    cases x with
    | d y => exact k v r2
    | c m => exact k v r2
    | o ds =>
      obtain ⟨a, xs2, _, hm, _⟩ := r2
      cases hm
    | m t ps =>
      obtain ⟨a, xs2, _, hm, _⟩ := r2
      cases hm
  · rw [if_neg hn] at h
    exact absurd h id
theorem g_call (G : GF X.prog X.w X.K X.mg X.base cm k x ps F) (tk : Takes X W) (hr : Room k X.A) (ha : GA X cm W (e :: es) fs) (hg : Gl X x := by rfl) (hdb : (x == ("__debug__" : Str)) = false := by decide)
    (he : starEach (e :: es) X.env = (false, eval e X.env) :: starEach es X.env := by rfl) (hpl : (backTo pos (starEach es X.env)).any (·.1) = false := by rfl) (hn : ps.length = n := by rfl) :
    GE X cm W (.Call (.Name x p) (e :: es) [] pos) (eArgs (callF n F) fs) := by
  subst hn
  obtain ⟨f, fd, ok, m, kp, b⟩ := G
  exact pe_imp (pe_callS ok hr hg m kp b (fun σ => passAt tk σ) ha hdb he hpl) fun σ H Q ⟨p, ok, h⟩ => ⟨p, ok, (fin.bind h).imp (fun xs S1 D1 H1 w1 s1 k vs r => call_fin (ok.on w1 s1) r k) fun _ _ _ _ _ _ z => z⟩
theorem g_call0 (G : GF X.prog X.w X.K X.mg X.base cm k x [] F) (tk : Takes X W) (hr : Room k X.A) (hg : Gl X x := by rfl) (hdb : (x == ("__debug__" : Str)) = false := by decide) :
    GE X cm W (.Call (.Name x p) [] [] pos) (fun _ => callF 0 F []) := by
  obtain ⟨f, fd, ok, m, kp, b⟩ := G
  refine ⟨fun pins s σ H Q I ⟨p, okp, h⟩ => ?_⟩
  refine wpAny_Call_Name_kw (ld_glob I hg m ?_ hdb)
  refine PySem.W.callWith_K0 I.kIn kp (run_fnS (us := []) (vs := []) (E := WE W) ok hr b (passAt tk σ) I .nil ?_)
  exact call_fin (ps := []) (p := p) (xs := []) (S1 := p.S) (D1 := p.D) okp .nil h
end

/-! ## cells and own lists -/
/-- x = [..], to be written later -/
def sOwn (i : Nat) (es : Exs) : Sx := fun ρ S => match es ρ S with
  | .ok xs S1 => match datas xs with
    | some ds => if ds.length ≤ big then some (.nx, ρ.set i (some (.o ds)), S1) else none
    | none => none
  | .er e S1 => some (.er e, ρ, S1)
  | .no => none
/-- x is data from here on -/
def sFrz (i : Nat) (b : Sx) : Sx := fun ρ S => match ρ[i]? with
  | some (some (.o ds)) => b (ρ.set i (some (.d (.list ds)))) S
  | some (some (.m _ ps)) => b (ρ.set i (some (.d (.dict ps)))) S
  | _ => none
section
variable {cm : CM} {A : List Addr} {S : Sto} {D : Hp} {Ow Fr : List (Addr × HO)} {H : Hp} {ρ : Env} {σ : L2.St} {a : Addr} {xs : List V} {ds : List PyData} {i : Nat}
theorem VR.ow {O1 O2 : List (Addr × HO)} {x : Vl} {v : V} (s : ∀ q ∈ O1, q ∈ O2) (h : VR cm A D O1 x v) : VR cm A D O2 x v := by
  cases x with
  | d _ => exact h
  | c _ => exact h
  | o es => obtain ⟨b, ys, r1, r2, r3⟩ := h; exact ⟨b, ys, r1, s _ r2, r3⟩
  | m t ps => obtain ⟨b, ys, r1, r2, r3⟩ := h; exact ⟨b, ys, r1, s _ r2, r3⟩
theorem own_at {x : Vl} {v : V} (hx : isOwn (some (some x)) = true) (h : VR cm A D Ow x v) : ∃ b o, v = .ref b ∧ (b, o) ∈ Ow := by
  cases x with
  | d _ => cases hx
  | c _ => cases hx
  | o es => obtain ⟨b, ys, r1, r2, _⟩ := h; exact ⟨b, _, r1, r2⟩
  | m t ps => obtain ⟨b, ys, r1, r2, _⟩ := h; exact ⟨b, _, r1, r2⟩
theorem isOwn_get {ρ : Env} {j : Nat} (ho : isOwn ρ[j]? = true) : ∃ x, ρ[j]? = some (some x) ∧ isOwn (some (some x)) = true := by
  cases e1 : ρ[j]? with
  | none => rw [e1] at ho; cases ho
  | some o =>
    cases o with
    | none => rw [e1] at ho; cases ho
    | some x => rw [e1] at ho; exact ⟨x, rfl, ho⟩
/-- a name holds an object of its own -/
theorem Er.ownG {o : HO} {x : Vl} (w : Wd cm A S D (Ow ++ Fr) H) (h : Er cm A D Ow ρ σ) (na : H a = none) (hx : VR cm A D ((a, o) :: Ow) x (.ref a)) : Er cm A D ((a, o) :: Ow) (ρ.set i (some x)) (σ.set i (some (.ref a))) := by
  have fresh : ∀ (j : Nat), isOwn ρ[j]? = true → σ[j]? ≠ some (some (.ref a)) := fun j ho e => by
    obtain ⟨y, e1, oy⟩ := isOwn_get ho
    obtain ⟨v, h1, r⟩ := h.at' j _ e1
    obtain ⟨b, o', rfl, hm⟩ := own_at oy r
    rw [e] at h1
    cases h1
    have := (w.frs _ (List.mem_append_left _ hm)).1
    rw [na] at this
    cases this
  have own : ∀ m, isOwn (ρ.set i (some x))[m]? = true → m = i ∨ (m ≠ i ∧ isOwn ρ[m]? = true) := fun m hm => by
    by_cases hi : m = i
    · exact .inl hi
    · rw [List.getElem?_set_ne (Ne.symm hi)] at hm
      exact .inr ⟨hi, hm⟩
  refine ⟨by rw [List.length_set, List.length_set]; exact h.len, fun j y e => ?_, fun j k b hjk h1 h2 e1 e2 => ?_⟩
  · rw [List.getElem?_set] at e ⊢
    by_cases hij : i = j
    · rw [if_pos hij] at e ⊢
      split at e
      · rename_i hl
        cases e
        exact ⟨.ref a, by rw [if_pos (by have := h.len; omega)], hx⟩
      · cases e
    · rw [if_neg hij] at e ⊢
      obtain ⟨v, k1, k2⟩ := h.at' j y e
      exact ⟨v, k1, k2.ow fun q hq => List.mem_cons_of_mem _ hq⟩
  · rcases own j h1 with rfl | ⟨n1, o1⟩
    · rcases own k h2 with rfl | ⟨n2, o2⟩
      · exact hjk rfl
      · rw [List.getElem?_set_ne (Ne.symm n2)] at e2
        rw [List.getElem?_set] at e1
        rw [if_pos rfl] at e1
        split at e1
        · cases e1
          exact fresh k o2 e2
        · cases e1
    · rw [List.getElem?_set_ne (Ne.symm n1)] at e1
      rcases own k h2 with rfl | ⟨n2, o2⟩
      · rw [List.getElem?_set] at e2
        rw [if_pos rfl] at e2
        split at e2
        · cases e2
          exact fresh j o1 e1
        · cases e2
      · rw [List.getElem?_set_ne (Ne.symm n2)] at e2
        exact h.ne j k b hjk o1 o2 e1 e2
/-- a name holds a list of its own -/
theorem Er.own (w : Wd cm A S D (Ow ++ Fr) H) (h : Er cm A D Ow ρ σ) (na : H a = none) (hd : DvA cm D xs ds) : Er cm A D ((a, .lst xs) :: Ow) (ρ.set i (some (.o ds))) (σ.set i (some (.ref a))) :=
  h.ownG w na ⟨a, xs, rfl, List.mem_cons_self, hd⟩
end
end Sm

set_option maxHeartbeats 4000000
namespace Sm
open PySem PySem.Spec PyProof.Rows L2 Lf

section
variable {cm : CM} {A : List Addr} {S : Sto} {D : Hp} {Ow O1 O2 Fr : List (Addr × HO)} {H : Hp} {ρ : Env} {σ : L2.St} {a : Addr} {xs xs' : List V} {ds ds' : List PyData} {i n : Nat}
/-- an own object is written -/
theorem Er.upG {o o' : HO} {x' : Vl} (w : Wd cm A S D ((O1 ++ (a, o) :: O2) ++ Fr) H) (h : Er cm A D (O1 ++ (a, o) :: O2) ρ σ) (hi : isOwn ρ[i]? = true) (hs : σ[i]? = some (some (.ref a))) (hd : VR cm A D (O1 ++ (a, o') :: O2) x' (.ref a)) :
    Er cm A D (O1 ++ (a, o') :: O2) (ρ.set i (some x')) σ := by
  have own : ∀ m, isOwn (ρ.set i (some x'))[m]? = true → isOwn ρ[m]? = true := fun m hm => by
    by_cases hm2 : m = i
    · rw [hm2]; exact hi
    · rw [List.getElem?_set_ne (Ne.symm hm2)] at hm
      exact hm
  refine ⟨by rw [List.length_set]; exact h.len, fun j y e => ?_, fun j k b hjk h1 h2 => h.ne j k b hjk (own j h1) (own k h2)⟩
  rw [List.getElem?_set] at e
  by_cases hij : i = j
  · rw [if_pos hij] at e
    split at e
    · cases e
      rw [← hij]
      exact ⟨_, hs, hd⟩
    · cases e
  · rw [if_neg hij] at e
    obtain ⟨v, k1, k2⟩ := h.at' j y e
    refine ⟨v, k1, ?_⟩
    have mem : ∀ {b : Addr} {o1 : HO}, isOwn ρ[j]? = true → v = .ref b → (b, o1) ∈ O1 ++ (a, o) :: O2 → (b, o1) ∈ O1 ++ (a, o') :: O2 := fun ho hv r2 => by
      rcases List.mem_append.mp r2 with z | z
      · exact List.mem_append_left _ z
      · rcases List.mem_cons.mp z with z | z
        · cases z
          subst hv
          exact (h.ne i j a hij hi ho hs k1).elim
        · exact List.mem_append_right _ (List.mem_cons_of_mem _ z)
    cases y with
    | d _ => exact k2
    | c _ => exact k2
    | o es =>
      obtain ⟨b, ys, rfl, r2, r3⟩ := k2
      exact ⟨b, ys, rfl, mem (by rw [e]; rfl) rfl r2, r3⟩
    | m t ps =>
      obtain ⟨b, ys, rfl, r2, r3⟩ := k2
      exact ⟨b, ys, rfl, mem (by rw [e]; rfl) rfl r2, r3⟩
theorem Er.upO (w : Wd cm A S D ((O1 ++ (a, .lst xs) :: O2) ++ Fr) H) (h : Er cm A D (O1 ++ (a, .lst xs) :: O2) ρ σ) (hi : isOwn ρ[i]? = true) (hs : σ[i]? = some (some (.ref a))) (hd : DvA cm D xs' ds') :
    Er cm A D (O1 ++ (a, .lst xs') :: O2) (ρ.set i (some (.o ds'))) σ := h.upG w hi hs ⟨a, xs', rfl, List.mem_append_right _ List.mem_cons_self, hd⟩
/-- an own object becomes data -/
theorem Er.frzG {o : HO} {d : PyData} (w : Wd cm A S D ((O1 ++ (a, o) :: O2) ++ Fr) H) (h : Er cm A D (O1 ++ (a, o) :: O2) ρ σ) (hi : isOwn ρ[i]? = true) (hs : σ[i]? = some (some (.ref a))) (hd : Dv cm (upd D a o) (.ref a) d) (nd : D a = none) :
    Er cm A (upd D a o) (O1 ++ O2) (ρ.set i (some (.d d))) σ := by
  have sD : Same D (upd D a o) := same_new nd _
  have own : ∀ m, isOwn (ρ.set i (some (.d d)))[m]? = true → m ≠ i ∧ isOwn ρ[m]? = true := fun m hm => by
    by_cases hm2 : i = m
    · rw [List.getElem?_set, if_pos hm2] at hm
      split at hm <;> cases hm
    · rw [List.getElem?_set_ne hm2] at hm
      exact ⟨fun z => hm2 z.symm, hm⟩
  refine ⟨by rw [List.length_set]; exact h.len, fun j y e => ?_, fun j k b hjk h1 h2 => h.ne j k b hjk (own j h1).2 (own k h2).2⟩
  rw [List.getElem?_set] at e
  by_cases hij : i = j
  · rw [if_pos hij] at e
    split at e
    · cases e
      rw [← hij]
      exact ⟨_, hs, hd⟩
    · cases e
  · rw [if_neg hij] at e
    obtain ⟨v, k1, k2⟩ := h.at' j y e
    refine ⟨v, k1, ?_⟩
    have mem : ∀ {b : Addr} {o1 : HO}, isOwn ρ[j]? = true → v = .ref b → (b, o1) ∈ O1 ++ (a, o) :: O2 → (b, o1) ∈ O1 ++ O2 := fun ho hv r2 => by
      rcases List.mem_append.mp r2 with z | z
      · exact List.mem_append_left _ z
      · rcases List.mem_cons.mp z with z | z
        · cases z
          subst hv
          exact (h.ne i j a hij hi ho hs k1).elim
        · exact List.mem_append_right _ z
    cases y with
    | d _ => exact Dv.mono sD k2
    | c _ => exact k2
    | o es =>
      obtain ⟨b, ys, rfl, r2, r3⟩ := k2
      exact ⟨b, ys, rfl, mem (by rw [e]; rfl) rfl r2, r3.mono sD⟩
    | m t ps =>
      obtain ⟨b, ys, rfl, r2, r3⟩ := k2
      exact ⟨b, ys, rfl, mem (by rw [e]; rfl) rfl r2, r3.mono sD⟩
theorem Er.frz (w : Wd cm A S D ((O1 ++ (a, .lst xs) :: O2) ++ Fr) H) (h : Er cm A D (O1 ++ (a, .lst xs) :: O2) ρ σ) (hi : isOwn ρ[i]? = true) (hs : σ[i]? = some (some (.ref a))) (hd : DvA cm D xs ds) (nd : D a = none) :
    Er cm A (upd D a (.lst xs)) (O1 ++ O2) (ρ.set i (some (.d (.list ds)))) σ := h.frzG w hi hs (.lst upd_same (hd.mono (same_new nd _))) nd
/-- a cell is written -/
theorem Wd.setC {F : List (Addr × HO)} (w : Wd cm A S D F H) (hA : A[n]? = some a) (hn : n < S.length) (hd : DvA cm D xs' ds') : Wd cm A (S.set n ds') D F (upd H a (.lst xs')) := by
  have mA : a ∈ A := List.mem_of_getElem? hA
  have nD := w.out a mA
  refine ⟨fun b u e => ?_, fun q hq => ?_, w.ndF, fun m es e => ?_, w.out, w.ndA, by rw [List.length_set]; exact w.len⟩
  · rw [upd_ne (fun z => by rw [z, nD] at e; cases e)]
    exact w.sub _ _ e
  · obtain ⟨k1, k2, k3⟩ := w.frs q hq
    exact ⟨by rw [upd_ne (fun z : q.1 = a => k3 (z ▸ mA))]; exact k1, k2, k3⟩
  · by_cases hm : m = n
    · rw [hm, List.getElem?_set_self hn] at e
      cases e
      exact ⟨a, xs', by rw [hm]; exact hA, upd_same, hd⟩
    · rw [List.getElem?_set_ne (Ne.symm hm)] at e
      obtain ⟨b, ys, k1, k2, k3⟩ := w.cel m es e
      refine ⟨b, ys, k1, ?_, k3⟩
      rw [upd_ne (fun z => hm ?_)]
      · exact k2
      · rw [z] at k1
        obtain ⟨l1, e1⟩ := List.getElem?_eq_some_iff.mp k1
        obtain ⟨l2, e2⟩ := List.getElem?_eq_some_iff.mp hA
        exact (List.getElem_inj w.ndA).mp (e1.trans e2.symm)
end

/-! ## statements on own lists and cells -/
/-- x.append(e) -/
def sApp (i : Nat) (e : Ex) : Sx := fun ρ S => match ρ[i]? with
  | some (some (.o ds)) => sE (e ρ S) ρ fun x S1 => match x with
    | .d y => if ds.length ≤ big then some (.nx, ρ.set i (some (.o (ds ++ [y]))), S1) else none
    | _ => none
  | _ => none
def putV (i : Nat) (w : Vl) (ρ : Env) (S : Sto) (y : PyData) (k : Int) : Option (Out × Env × Sto) := match w with
  | .o ds => match ixN ds.length k with
    | some j => some (.nx, ρ.set i (some (.o (ds.set j y))), S)
    | none => none
  | .c n => match S[n]? with
    | some ds => match ixN ds.length k with
      | some j => some (.nx, ρ, S.set n (ds.set j y))
      | none => none
    | none => none
  | _ => none
/-- x[k] = e -/
def sPut (i : Nat) (k : Ex) (e : Ex) : Sx := fun ρ S => match ρ[i]? with
  | some (some w) => sE (e ρ S) ρ fun x S1 => match x with
    | .d y => sE (k ρ S1) ρ fun z S2 => match z with
      | .d (.int j) => putV i w ρ S2 y j
      | _ => none
    | _ => none
  | _ => none
section
variable {X : Cx} {cm : CM} {W : WX} {pos apos cpos px : Pos} {e ek : Expr} {f fk : Ex} {x : Str} {i : Nat}
theorem isOwn_of {ρ : Env} {i : Nat} {ds : List PyData} (h : ρ[i]? = some (some (.o ds))) : isOwn ρ[i]? = true := by rw [h]; rfl
theorem gs_app (hN : X.N[i]? = some x) (hv : Vis X.env.scope x) (hd : (x == ("__debug__" : Str)) = false) (hcd : (x == ("__classdict__" : Str)) = false) (he : GE X cm W e f)
    (hbase : attributeBase (.Name x px) "append" X.env (eval (.Name x px) X.env) = eval (.Name x px) X.env := by rfl)
    (hfew : ((backTo cpos (starEach [e] X.env)).all (fun x => !x.1) && (backToKw cpos (keywordEach [] X.env)).all (fun x => x.1.isSome) && decide (([e] : List Expr).length + ([] : List Keyword).length + (if ([] : List Keyword).isEmpty then 0 else 1) < 30)) = true := by rfl)
    (hline : (apos.endLine == cpos.line) = true := by rfl) (hs : starEach [e] X.env = (false, eval e X.env) :: starEach [] X.env := by rfl) (hplain : (backTo cpos (starEach [] X.env)).any (·.1) = false := by rfl)
    (hsw : swapsWith (.Call (.Attribute (.Name x px) "append" apos) [e] [] cpos) none pos.line X.env = pure false := by rfl) :
    GS X cm W (.Expr (.Call (.Attribute (.Name x px) "append" apos) [e] [] cpos) pos) (sApp i f) :=
  ps_imp (ps_expr (pe_bm PySem.F.plainAttrs_list PySem.F.slot_list_append PySem.F.type_list_append mt_append (pe_var hN hv hd hcd) (pa_cons he pa_nil hs) hbase hfew hline hs hplain) hsw) fun Ds σ H ⟨p, ok, h⟩ => by
    unfold sApp at h
    split at h
    · rename_i ds eo
      obtain ⟨v, h1, a, xs, rfl, hm, hd⟩ := ok.er.at' i _ eo
      obtain ⟨O1, O2, eO⟩ := List.append_of_mem hm
      refine ⟨.ref a, h1, .inl ⟨rfl, xs, .of (ok.wd.frs _ (List.mem_append_left _ hm)).1⟩, p, ok, finE (W := W) (okQ := fun y S1 D1 H1 => ∀ u, VR cm p.A D1 p.Ow y u → rAppend (.ref a) [u] H1 (fun _ H2 => Ds.nx σ H2)) ok h (fun y S1 D1 H1 _ ok1 s k u r => ?_) fun e S1 D1 H1 z => z⟩
      cases y with
      | c _ => exact absurd k id
      | o _ => exact absurd k id
      | m _ _ => exact absurd k id
      | d y =>
        dsimp only at k
        split at k
        · rename_i hl
          have w1 := ok1.wd
          have e1 := ok1.er
          dsimp only at w1 e1
          rw [eO] at w1 e1
          have w1' : Wd cm p.A S1 D1 (O1 ++ (a, .lst xs) :: (O2 ++ p.Fr)) H1 := by rw [List.append_assoc, List.cons_append] at w1; exact w1
          have w2 := w1'.up (.lst (xs ++ [u]))
          have hd1 : DvA cm D1 (xs ++ [u]) (ds ++ [y]) := (hd.mono s).append (.cons r .nil)
          refine ⟨a, xs, u, rfl, rfl, w1'.at_.1, by rw [hd.length]; exact big_le hl, ?_⟩
          refine k D1 (O1 ++ (a, .lst (xs ++ [u])) :: O2) σ _ ⟨?_, e1.upO w1 (isOwn_of eo) h1 hd1⟩ (.refl _)
          show Wd cm p.A S1 D1 ((O1 ++ (a, .lst (xs ++ [u])) :: O2) ++ p.Fr) _
          rw [List.append_assoc, List.cons_append]
          exact w2
        · exact absurd k id
    · exact absurd h id
theorem gs_put (hN : X.N[i]? = some x) (hv : Vis X.env.scope x) (hd : (x == ("__debug__" : Str)) = false) (hcd : (x == ("__classdict__" : Str)) = false) (hk : GE X cm W ek fk) (he : GE X cm W e f)
    (ha : ∀ v, assign (.Subscript (.Name x px) ek pos) X.env v = (do
      let ov ← holding [v] (eval (.Name x px) X.env)
      let iv ← holding [v, ov] (eval ek X.env)
      standAt pos
      holding [v, ov, iv] (setItem ov iv v)
      release [v, ov, iv] []) := by intro _; rfl)
    (hs : swapsWithSole [.Subscript (.Name x px) ek pos] e cpos.line X.env = pure false := by rfl) (hw : swappedStores [.Subscript (.Name x px) ek pos] e X.env = pure none := by rfl)
    (h1 : (assignEach [.Subscript (.Name x px) ek pos] X.env).map (·.2) = [assign (.Subscript (.Name x px) ek pos) X.env] := by rfl) :
    GS X cm W (.Assign [.Subscript (.Name x px) ek pos] e cpos) (sPut i fk f) :=
  ps_imp (ps_asg he (pg_sub (pe_var hN hv hd hcd) hk set_list ha) hs hw h1) fun Ds σ H ⟨p, ok, h⟩ => by
    unfold sPut at h
    split at h
    · rename_i wv eo
      refine ⟨p, ok, finE (W := W) (okQ := fun y S1 D1 H1 => ∀ u, VR cm p.A D1 p.Ow y u → gSub (tVar i) (tE cm W fk) rSetL u σ H1 Ds.nx) ok h (fun y S1 D1 H1 _ ok1 s k u r => ?_) fun e S1 D1 H1 z => z⟩
      cases y with
      | c _ => exact absurd k id
      | o _ => exact absurd k id
      | m _ _ => exact absurd k id
      | d y =>
        dsimp only at k
        obtain ⟨v, q1, q2⟩ := ok1.er.at' i wv eo
        refine ⟨v, q1, ⟨p.A, S1, D1, p.Ow, p.Fr, p.ρ⟩, ok1, finE (W := W) (okQ := fun z S2 D2 H2 => ∀ t, VR cm p.A D2 p.Ow z t → rSetL v t u H2 fun H3 => Ds.nx σ H3) ok1 k (fun z S2 D2 H2 _ ok2 s2 k2 t r2 => ?_) fun e S1 D1 H1 z => z⟩
        split at k2
        · rename_i j _
          cases r2
          have hu : Dv cm D2 u y := Dv.mono s2 r
          unfold putV at k2
          split at k2
          · rename_i ds
            obtain ⟨a, xs, rfl, hm, hd⟩ := VR.mono (x := .o ds) s2 q2
            split at k2
            · rename_i jj ej
              obtain ⟨O1, O2, eO⟩ := List.append_of_mem hm
              have w1 := ok2.wd
              have e1 := ok2.er
              dsimp only at w1 e1
              rw [eO] at w1 e1
              have w1' : Wd cm p.A S2 D2 (O1 ++ (a, .lst xs) :: (O2 ++ p.Fr)) H2 := by rw [List.append_assoc, List.cons_append] at w1; exact w1
              refine ⟨a, xs, j, jj, rfl, rfl, w1'.at_.1, by rw [hd.length]; exact ej, ?_⟩
              refine k2 D2 (O1 ++ (a, .lst (xs.set jj u)) :: O2) σ _ ⟨?_, e1.upO w1 (isOwn_of eo) q1 (hd.set jj hu)⟩ (.refl _)
              show Wd cm p.A S2 D2 ((O1 ++ (a, .lst (xs.set jj u)) :: O2) ++ p.Fr) _
              rw [List.append_assoc, List.cons_append]
              exact w1'.up _
            · exact absurd k2 id
          · rename_i n
            split at k2
            · rename_i ds eS
              split at k2
              · rename_i jj ej
                obtain ⟨a, ha, rfl⟩ := q2
                obtain ⟨a2, xs, g1, g2, g3⟩ := ok2.wd.cel n ds eS
                dsimp only at g1
                rw [ha] at g1
                cases g1
                refine ⟨a, xs, j, jj, rfl, rfl, g2, by rw [g3.length]; exact ej, ?_⟩
                exact k2 D2 p.Ow σ _ ⟨ok2.wd.setC ha (List.getElem?_eq_some_iff.mp eS).1 (g3.set jj hu), ok2.er⟩ (.refl _)
              · exact absurd k2 id
            · exact absurd k2 id
          · exact absurd k2 id
        · exact absurd k2 id
    · exact absurd h id
/-- x = [..], a list of its own -/
theorem gs_own {es : List Expr} {fs : Exs} {pos' : Pos} (hN : X.N.Nodup) (hi : X.N[i]? = some x) (hx : Loc X.env.scope x) (he : GA X cm W es fs) (hs : swapsWith (.List es cpos) (some (.Name x pos')) pos.line X.env = pure false := by rfl) (hf : X.fn x = true ∨ X.env.scope.names.lookup x = some .local := by first | exact .inl rfl | exact .inr rfl | assumption) :
    GS X cm W (.Assign [.Name x pos'] (.List es cpos) pos) (sOwn i fs) :=
  ps_imp (ps_set hN hi hx (pe_lst he) hs hf) fun Ds σ H ⟨p, ok, h⟩ => by
    refine ⟨p, ok, ?_⟩
    unfold sOwn at h
    cases e : fs p.ρ p.S with
    | no => rw [e] at h; exact absurd h id
    | er x S1 => rw [e] at h; exact fun D1 H1 w s => h D1 p.Ow σ H1 (ok.on w s) s
    | ok xs S1 =>
      rw [e] at h
      dsimp only at h
      intro D1 H1 w1 s1 vs r
      split at h
      · rename_i ds ed
        split at h
        · rename_i hl
          have hd := datas_dv ed r
          refine ⟨by rw [hd.length]; exact Nat.le_of_lt (big_le hl), fun a na => ?_⟩
          exact h D1 ((a, .lst vs) :: p.Ow) _ _ ⟨w1.newF na _, (ok.er.mono s1).own w1 na hd⟩ s1
        · exact absurd h id
      · exact absurd h id
/-- from here on x is data -/
theorem gss_frz {sts : List Stmt} {b : Sx} (h : GSs X cm W sts b) : GSs X cm W sts (sFrz i b) :=
  pss_imp h fun Ds σ H ⟨p, ok, h⟩ => by
    have key : ∀ (x : Vl) (d : PyData) (a : Addr) (o : HO), p.ρ[i]? = some (some x) → isOwn (some (some x)) = true → σ[i]? = some (some (.ref a)) → (a, o) ∈ p.Ow → (∀ D', Same p.D D' → D' a = some o → Dv cm D' (.ref a) d) →
        finS cm p (b (p.ρ.set i (some (.d d))) p.S) (fun o q σ' H' => outP cm W Ds o q σ' H') → tS cm W b Ds σ H := fun x d a o eo ox h1 hm hd h => by
      obtain ⟨O1, O2, eO⟩ := List.append_of_mem hm
      have w1 := ok.wd
      have e1 := ok.er
      rw [eO] at w1 e1
      have w1' : Wd cm p.A p.S p.D (O1 ++ (a, o) :: (O2 ++ p.Fr)) H := by rw [List.append_assoc, List.cons_append] at w1; exact w1
      obtain ⟨w2, s2⟩ := w1'.toD
      refine ⟨⟨p.A, p.S, upd p.D a o, O1 ++ O2, p.Fr, p.ρ.set i (some (.d d))⟩, ⟨?_, e1.frzG w1 (by rw [eo]; exact ox) h1 (hd _ s2 upd_same) w1'.at_.2.1⟩, finS.on h rfl rfl s2⟩
      rw [← List.append_assoc] at w2
      exact w2
    unfold sFrz at h
    split at h
    · rename_i ds eo
      obtain ⟨v, h1, a, xs, rfl, hm, hd⟩ := ok.er.at' i _ eo
      exact key _ _ a _ eo rfl h1 hm (fun D' s e => .lst e (hd.mono s)) h
    · rename_i t ps eo
      obtain ⟨v, h1, a, o, rfl, hm, hd⟩ := ok.er.at' i _ eo
      cases t with
      | false => obtain ⟨kvs, rfl, h3, h4⟩ := hd; exact key _ _ a _ eo rfl h1 hm (fun D' s e => .dK (.inl e) h3 (h4.mono s)) h
      | true => obtain ⟨kvs, rfl, h3, h4⟩ := hd; exact key _ _ a _ eo rfl h1 hm (fun D' s e => .dT e h3 (h4.mono s)) h
    · exact absurd h id
end
end Sm

set_option maxHeartbeats 4000000
namespace Lf
open PySem PySem.Spec PyProof.Rows L2

/-! ## sets of texts: added one by one -/
def keyS (e : Int × Value) : Str := match e.2 with | .str x _ => x | _ => ""
structure GoodS (w : World) (e : Int × Value) : Prop where
  ex : ∃ x tk, e.2 = Value.str x tk ∧ e.1 = hashStr w x
theorem GoodS.is {P : Program} {w : World} {e : Int × Value} (h : GoodS w e) (k : Str) : (strKind P w).is k e.2 = true ↔ keyS e = k := by
  obtain ⟨x, tk, e1, e2⟩ := h.ex
  unfold keyS
  rw [e1]
  show (Value.isStrOf k (.str x tk)) = true ↔ x = k
  simp only [Value.isStrOf]
  constructor
  · intro h
    exact (by simpa using h : _)
  · rintro rfl
    simp
theorem good_elemsS {P : Program} {w : World} {l : List (Int × Value)} (h : ∀ e ∈ l, GoodS w e) : ElemsOf (strKind P w) l := fun e he => by
  have g := h e he
  obtain ⟨x, tk, e1, e2⟩ := g.ex
  refine ⟨⟨x, ?_, e2⟩, ?_⟩
  · rw [g.is (P := P)]
    unfold keyS
    rw [e1]
  · rw [e1]
    rfl
structure SetS1 (w : World) (es : Array (Int × Value)) (t : SetTable) (l : List Str) : Prop where
  good : ∀ e ∈ es.toList, GoodS w e
  keys : (es.toList.map keyS).Perm l
  nd : l.Nodup
  few : l.length < scanBound
  fit : t.fits es.size = true
  ris : Ris t.place.toList
  led : w.params.followText "set-order" = true ∨ t.led = true
theorem SetS1.size {w : World} {es : Array (Int × Value)} {t : SetTable} {l : List Str} (h : SetS1 w es t l) : es.size = l.length := by
  rw [← h.keys.length_eq, List.length_map, Array.length_toList]
structure SetS (w : World) (h : Heap) (a : Addr) (l : List Str) : Prop where
  ex : ∃ o es ep t, h.get? a = some o ∧ o.ExactSet ∧ o.data = Data.set es ep t ∧ SetS1 w es t l
theorem SetS.at {w : World} {h h' : Heap} {a : Addr} {l : List Str} (g : SetS w h a l) (k : ∀ o, h.get? a = some o → h'.get? a = some o) : SetS w h' a l := by
  obtain ⟨o, es, ep, t, h1, h2, h3, h4⟩ := g.ex
  exact ⟨o, es, ep, t, k _ h1, h2, h3, h4⟩
theorem SetS1.perm {w : World} {es : Array (Int × Value)} {t : SetTable} {l l' : List Str} (h : SetS1 w es t l) (p : l.Perm l') : SetS1 w es t l' :=
  ⟨h.good, h.keys.trans p, p.nodup_iff.mp h.nd, by rw [← p.length_eq]; exact h.few, h.fit, h.ris, h.led⟩
theorem setS_tail {P : Program} {w : World} {A : Around} {E : Value → Shared → Prop} {s : Shared} {a : Addr} {g : Bool → Sem Unit}
    (hg : ∀ (b : Bool) (s₁ : Shared) (Q' : Unit → Shared → Prop), Q' () s₁ → wpAny (model P w) A (g b) Q' E s₁)
    {o : Obj} {es : Array (Int × Value)} {ep : Nat} {t : SetTable} (ho : s.heap.get? a = some o) (hx : o.ExactSet) (hd : o.data = Data.set es ep t)
    {es1 : Array (Int × Value)} {t2 : SetTable} {l : List Str} (h1 : SetS1 w es1 t2 l) {wasDummy : Bool} {R : Option Bool → Shared → Prop}
    (k : ∀ h', Heap.SameBut a s.heap h' → SetS w h' a l → R (some true) { heap := h', gens := s.gens, drawn := s.drawn, toks := s.toks, os := s.os }) :
    wpAny (model P w) A (do
      storeSet a es1 t2
      if (!wasDummy && t2.tooFull) = true then do
        g (relayAll t2 es1 (SetTable.grown es1.size)).snd.snd
        storeSet a (relayAll t2 es1 (SetTable.grown es1.size)).fst (relayAll t2 es1 (SetTable.grown es1.size)).snd.fst
        pure (some true)
      else pure (some true)) R E s := by
  have sz : es1.size < scanBound := by rw [h1.size]; exact h1.few
  refine wpAny_bind (wpAny_storeSet_of ho hd ?_ (fits_of_scanBound sz))
  have at1 := store_at (es' := es1) (t' := t2) ho hd
  have sb : Heap.SameBut a s.heap (s.heap.update a (Obj.putSet es1 t2)) := Heap.SameBut.update _ _ _
  by_cases c : (!wasDummy && t2.tooFull) = true
  · rw [if_pos c]
    have p := relayAll_perm t2 es1 (SetTable.grown es1.size)
    have f := relayAll_fits t2 es1 (SetTable.grown es1.size)
    have r := relayAll_ris t2 es1 (SetTable.grown es1.size)
    have ld := relayAll_led t2 es1 (SetTable.grown es1.size)
    generalize relayAll t2 es1 (SetTable.grown es1.size) = z at p f r ld ⊢
    obtain ⟨es3, t3, gv⟩ := z
    dsimp only at p f r ld ⊢
    have s3 : SetS1 w es3 t3 l := ⟨fun e he => h1.good e (p.mem_iff.mp he), (p.map keyS).trans h1.keys, h1.nd, h1.few, f, r, h1.led.imp id fun z => ld.trans z⟩
    have sz3 : es3.size < scanBound := by rw [s3.size]; exact h1.few
    refine wpAny_bind (hg _ _ _ (wpAny_bind (wpAny_storeSet_of at1 rfl (wpAny_pure (k _ (sb.trans (Heap.SameBut.update _ _ _)) ⟨_, _, _, _, store_at (es' := es3) (t' := t3) at1 rfl, ?_, rfl, s3⟩)) (fits_of_scanBound sz3))))
    exact ⟨hx.1, hx.2.1, hx.2.2⟩
  · rw [if_neg c]
    exact wpAny_pure (k _ sb ⟨_, _, _, _, at1, ⟨hx.1, hx.2.1, hx.2.2⟩, rfl, h1⟩)
theorem isS {P : Program} {w : World} (k : Str) (tk : Tok) : (PySem.strKind P w).is k (.str k tk) = true := by
  show (Value.isStrOf k (.str k tk)) = true
  simp [Value.isStrOf]
theorem gw_any {M : Model} {A : Around} {E : Value → Shared → Prop} (b : Bool) (s : Shared) (Q' : Unit → Shared → Prop) (h : Q' () s) :
    wpAny M A (match b with | true => rule "set.scan.the-table-gave-way" | false => pure ()) Q' E s := by
  cases b
  · exact wpAny_pure h
  · exact wpAny_rule h
theorem setS_add {P : Program} {w : World} {A : Around} {E : Value → Shared → Prop} {s : Shared} {a : Addr} {l : List Str} {k : Str} {tk : Tok} {Q : Bool → Shared → Prop}
    (h : SetS w s.heap a l) (hn : l.length + 1 < scanBound)
    (q : ∀ b h', Heap.SameBut a s.heap h' → SetS w h' a (if k ∈ l then l else k :: l) → Q b { heap := h', gens := s.gens, drawn := s.drawn, toks := s.toks, os := s.os }) :
    wpAny (model P w) A (setAddHashed a (.str k tk) (hashStr w k)) Q E s := by
  obtain ⟨o, es, ep, t, ho, hx, hd, g⟩ := h.ex
  have el := good_elemsS (P := P) g.good
  have sz : es.size < scanBound := by rw [g.size]; exact g.few
  refine wpAny_holding ?_
  show wpAny _ _ (setAddHashedIn a (.str k tk) (hashStr w k) (99999 + 1)) _ _ _
  rw [setAddHashedIn_succ]
  refine wpAny_bind (wpAny_setState_of ho hd g.fit ?_)
  dsimp only
  refine wp_if_pos (byScan_of (knd := strKind P w) rfl sz el) ?_
  refine wpAny_bind ?_
  unfold setAddByScan
  refine wpAny_bind (wpAny_rule (wpAny_bind ?_))
  refine wpAny_setScan_of (knd := strKind P w) (k := k) (x := .str k tk) (isS k tk) ho hd g.fit el ?_
  have mem : k ∈ l ↔ ∃ e ∈ es.toList, keyS e = k := by
    rw [← g.keys.mem_iff]
    simp only [List.mem_map]
  cases hf : List.findIdx? (fun e => (strKind P w).is k e.2) es.toList with
  | some j =>
    dsimp only
    have hm : k ∈ l := by
      rw [mem]
      obtain ⟨hj, hk, _⟩ := List.findIdx?_eq_some_iff_getElem.mp hf
      exact ⟨_, List.getElem_mem hj, ((g.good _ (List.getElem_mem hj)).is (P := P) k).mp hk⟩
    refine wpAny_pure (wpAny_pure (q _ _ (Heap.SameBut.refl _ _) ?_))
    rw [if_pos hm]
    exact ⟨o, es, ep, t, ho, hx, hd, g⟩
  | none =>
    dsimp only
    have hm : k ∉ l := by
      rw [mem]
      rintro ⟨e, he, hk⟩
      have z := List.findIdx?_eq_none_iff.mp hf e he
      rw [((g.good e he).is (P := P) k).mpr hk] at z
      cases z
    have p := layNew_perm t es (hashStr w k) (.str k tk)
    have f := layNew_fits t es (hashStr w k) (.str k tk)
    have r := layNew_ris t es (hashStr w k) (.str k tk) g.ris
    have ld := layNew_led t es (hashStr w k) (.str k tk)
    generalize layNew t es (hashStr w k) (.str k tk) = z at p f r ld ⊢
    obtain ⟨es1, t1, wd, gv⟩ := z
    dsimp only at p f r ld ⊢
    have p' : es1.toList.Perm ((hashStr w k, Value.str k tk) :: es.toList) := by
      refine p.trans ?_
      rw [Array.toList_push]
      exact List.perm_append_singleton _ _
    have g1 : ∀ t2, t2.fits es1.size = true → Ris t2.place.toList → t2.led = t1.led → SetS1 w es1 t2 (k :: l) := fun t2 f2 r2 l2 =>
      ⟨fun e he => by
        rcases List.mem_cons.mp (p'.mem_iff.mp he) with rfl | he
        · exact ⟨k, tk, rfl, rfl⟩
        · exact g.good e he, (p'.map keyS).trans (List.Perm.cons _ g.keys), List.nodup_cons.mpr ⟨hm, g.nd⟩, by rw [List.length_cons]; exact hn, f2, r2, g.led.imp id fun z => l2.trans (ld.trans z)⟩
    refine wpAny_bind (gw_any gv s _ ?_)
    by_cases pl : t1.plain = true
    · rw [if_pos pl, hashByValue_scannable (x := .str k tk) 8 rfl]
      have g2 := g1 { mask := t1.mask, place := t1.place, dummies := t1.dummies, finger := t1.finger, led := t1.led, moves := t1.moves, plain := false } (SetTable.fits_plain_off f) r rfl
      refine wpAny_bind (wpAny_pure ?_)
      rw [if_neg (show ¬ (plainKind (Value.str k tk) = true) from Bool.false_ne_true)]
      refine setS_tail (fun b s₁ Q' hq => gw_any b s₁ Q' hq) ho hx hd g2 fun h' sb gs => wpAny_pure (q _ _ sb ?_)
      rw [if_neg hm]
      exact gs
    · rw [if_neg pl]
      refine wpAny_bind (wpAny_pure ?_)
      rw [if_pos rfl]
      refine setS_tail (fun b s₁ Q' hq => gw_any b s₁ Q' hq) ho hx hd (g1 t1 f r rfl) fun h' sb gs => wpAny_pure (q _ _ sb ?_)
      rw [if_neg hm]
      exact gs
end Lf

set_option maxHeartbeats 4000000
namespace Lf
open PySem PySem.Spec PyProof.Rows L2
/-- set(things): one after another is added, what holds of the set being told by the one who calls -/
theorem set_update_by {P : Program} {w : World} {A : Around} {I : Addr} {fp wr : List Addr} {G : Array GenState → Array GenState → Prop} {n : Nat} {Pv : Nat → Value → Prop}
    {St : Nat → Shared → Prop} {R : Result → Shared → Prop} (hw : WalksS P w A.in1 I fp wr G n Pv St) (S : Addr) (hS : S ∉ fp) (Iv : Nat → Heap → Prop)
    (hk : ∀ i h h', Iv i h → (∀ b o, b ∉ wr → h.get? b = some o → h'.get? b = some o) → Iv i h')
    (step : ∀ i v (s : Shared) (E : Value → Shared → Prop) (Q : Bool → Shared → Prop), i < n → Pv i v → Iv i s.heap →
      (∀ b h' tk, s.toks ≤ tk → Heap.SameBut S s.heap h' → Iv (i + 1) h' → Q b { heap := h', gens := s.gens, drawn := s.drawn, toks := tk, os := s.os }) →
      wpAny (model P w) A.in1 (setAdd S v) Q E s) :
    ∀ (k i : Nat) (s : Shared), n - i = k → i ≤ n → St i s → Iv i s.heap →
      (∀ s', Moved (S :: wr) G s s' → Iv n s'.heap → R (Except.ok (Flow.ret Value.none)) s') →
      codeAny (model P w) A (Code.builtin "set.update.loop" { pos := [Value.ref S, Value.ref I] }) R s
  | 0, i, s, e, hi, st, iv, fin => by
    obtain rfl : i = n := by omega
    refine codeAny_builtin PyProof.Rows.F.entry_set_update_loop ?_
    rw [Around.under_plainId PyProof.Rows.F.plain_set_update_loop]
    unfold Builtin.«set.update.loop»
    dsimp only
    refine wpAny_bind (hw.done s _ _ st fun s' mv => ?_)
    dsimp only
    exact wpAny_pure (fin s' (mv.mono fun b hb => List.mem_cons_of_mem _ hb) (hk _ _ _ iv mv.heap))
  | k + 1, i, s, e, hi, st, iv, fin => by
    have hi' : i < n := by omega
    refine codeAny_builtin PyProof.Rows.F.entry_set_update_loop ?_
    rw [Around.under_plainId PyProof.Rows.F.plain_set_update_loop]
    unfold Builtin.«set.update.loop»
    dsimp only
    refine wpAny_bind (hw.item i s _ _ hi' st fun v s1 pv st1 mv => ?_)
    dsimp only
    refine wpAny_bind (wpAny_holding (step i v s1 _ _ hi' pv (hk _ _ _ iv mv.heap) fun b h' tk ht sb iv' => ?_))
    refine wpAny_pure ⟨plainId_quiet PyProof.Rows.F.plain_set_update_loop _, ?_⟩
    refine set_update_by hw S hS Iv hk step k (i + 1) _ (by omega) hi' (hw.frame (i + 1) s1 h' tk st1 ht fun b hb o ho => (sb.2 b fun z => hS (z ▸ hb)).trans ho) iv' fun s' mv' q => fin s' ?_ q
    refine Moved.trans hw.gtrans ((mv.mono fun b hb => List.mem_cons_of_mem _ hb).then_heap ht fun b o nb ho => ?_) mv'
    exact (sb.2 b fun z => nb (z ▸ List.mem_cons_self)).trans ho
end Lf

set_option maxHeartbeats 4000000
namespace Lf
open PySem PySem.Spec PyProof.Rows L2
abbrev setNew (w : World) : Obj := { cls := Value.type "set", data := Data.set #[] 0 (SetTable.fresh 0 0 !w.params.followText "set-order") }
theorem call_set_by {P : Program} {w : World} {A : Around} {E : Value → Shared → Prop} {s : Shared} {l : Addr} {T : String} {Q : Value → Shared → Prop}
    (hT0 : s.TypeIs (.ref l) T) (hs : isSubtype (.type T) (.type "set") = pure false) (hf : isSubtype (.type T) (.type "frozenset") = pure false) (hd : (Value.type T == Value.type "dict") = false)
    (hT1 : Shared.TypeIs { heap := s.heap.push (setNew w), gens := s.gens, drawn := s.drawn, toks := s.toks, os := s.os } (.ref l) T)
    (k : wpAny (model P w) A.in1.in1 (pyIter (.ref l)) (fun it s2 => wpAny (model P w) A.in1.in1 (runValue (Code.builtin "set.update.loop" { pos := [.ref s.heap.objs.size, it] })) (fun r s3 => Q (.ref s.heap.objs.size) s3) E s2) E
      { heap := s.heap.push (setNew w), gens := s.gens, drawn := s.drawn, toks := s.toks, os := s.os }) :
    wpAny (model P w) A (call (.type "set") [.ref l]) Q E s := by
  obtain ⟨c, tl, hmro⟩ := F.called_set.mro
  have hmade := F.called_set.made
  have hsub := F.called_set.sub
  have hct := F.typeCall_set_1 (Value.ref l)
  refine wpAny_call (codeAny_of_tree ?_)
  refine wpAny_pure ⟨Code.quiet_builtin _ (by decide +kernel), codeAny_builtin F.entry_type_call ?_⟩
  rw [show Around.under A (Code.builtin "type.__call__" { pos := Value.type "set" :: ({ pos := [Value.ref l] } : Args).pos }) = A.in1 from Around.under_plain (weight_type_call_type "set" [.ref l] []) rfl]
  unfold Builtin.«type.__call__»
  dsimp only
  refine wpAny_ite_false (by decide +kernel) (wpAny_ite_false (by decide +kernel) (wpAny_bind (wpAny_of_eq hct ?_)))
  refine wpAny_bind (wpAny_of_eq hmro ?_)
  refine wpAny_ite_false rfl ?_
  refine wpAny_bind (wpAny_of_eq hmade ?_)
  dsimp only
  refine wpAny_bind (wpAny_pure (wpAny_bind (wpAny_holding (wpAny_call (codeAny_mono (code_set_led1 (E := E) (.ref l) (Q₁ := fun v s₁ => v = .ref s.heap.objs.size ∧ s₁ = { heap := s.heap.push (setNew w), gens := s.gens, drawn := s.drawn, toks := s.toks, os := s.os }) ⟨rfl, rfl⟩) (fun (r : Result) s₁ (hr : wants _ E r s₁) => ?_))))))
  rcases r with e | f
  · exact hr
  · cases f with
    | ret v =>
      obtain ⟨rfl, rfl⟩ := hr
      dsimp only
      have hS : (s.heap.push (setNew w)).get? s.heap.objs.size = some (setNew w) := Heap.get?_push_size _ rfl
      have hT : Shared.TypeIs { heap := s.heap.push (setNew w), gens := s.gens, drawn := s.drawn, toks := s.toks, os := s.os } (.ref s.heap.objs.size) "set" := ⟨_, hS, rfl⟩
      refine wpAny_bind (wpAny_isInstance hT hsub (wpAny_ite_false (by decide +kernel) (wpAny_bind (wpAny_holding ?_))))
      refine wpAny_callSpecial?_slot hT F.called_set.init ?_
      refine wpAny_call (codeAny_call_builtin F.called_set.init.plain F.entry_set_init (check_set_init_1 hT ?_))
      unfold Builtin.«set.__init__»
      dsimp only
      refine wpAny_bind (wpAny_ite_true rfl (wpAny_pure ?_))
      refine wpAny_bind ?_
      unfold typeNameOfCut
      refine wpAny_bind ?_
      unfold shownTypeOf
      refine wpAny_bind (wpAny_typeOf hT ?_)
      refine wpAny_ite_false (by decide +kernel) (wpAny_pure ?_)
      unfold typeNameCut
      dsimp only
      unfold typeName
      dsimp only
      refine wpAny_pure (wpAny_bind ?_)
      unfold checkCount
      refine wpAny_ite_false rfl (wpAny_ite_false rfl (wpAny_ite_false rfl (wpAny_pure ?_)))
      refine wpAny_bind (wpAny_pure ?_)
      refine wpAny_bind ?_
      unfold setUsed
      refine wpAny_bind (wpAny_setState_of hS rfl rfl (wpAny_pure ?_))
      refine wpAny_ite_false rfl ?_
      refine wpAny_bind ?_
      unfold Builtin.Frozenset.updateFrom
      refine wpAny_bind ?_
      unfold Builtin.Frozenset.isAnySet orM
      refine wpAny_bind (wpAny_isInstance hT1 hs ?_)
      dsimp only
      refine wpAny_isInstance hT1 hf ?_
      refine wpAny_ite_false rfl (wpAny_bind (wpAny_typeOf hT1 ?_))
      rw [if_neg (by rw [hd]; exact Bool.false_ne_true)]
      refine wpAny_bind (wpAny_mono k (fun it s2 h2 => wpAny_bind (wpAny_mono h2 (fun r s3 h3 => ?_) fun _ _ h => h)) fun _ _ h => h)
      refine wpAny_pure (wpAny_pure ?_)
      dsimp only
      exact wpAny_ite_false rfl (wpAny_pure h3)
    | _ => exact hr
/-- set(list): what holds of the set is told by the one who calls -/
theorem set_list_by {P : Program} {w : World} {A : Around} {E : Value → Shared → Prop} {s : Shared} {l : Addr} {items : Array Value} {Q : Value → Shared → Prop}
    (hA : A.handled = none) (hl : s.heap.IsList l items) (Iv : Nat → Heap → Prop)
    (hk : ∀ i h h', Iv i h → (∀ b o, b ≠ s.heap.objs.size + 1 → h.get? b = some o → h'.get? b = some o) → Iv i h')
    (h0 : Iv 0 (s.heap.push (setNew w)))
    (step : ∀ i v (s1 : Shared) (E' : Value → Shared → Prop) (Q' : Bool → Shared → Prop), items[i]? = some v → Iv i s1.heap →
      (∀ b h' tk, s1.toks ≤ tk → Heap.SameBut s.heap.objs.size s1.heap h' → Iv (i + 1) h' → Q' b { heap := h', gens := s1.gens, drawn := s1.drawn, toks := tk, os := s1.os }) →
      wpAny (model P w) A.in1.in1.in1 (setAdd s.heap.objs.size v) Q' E' s1)
    (fin : ∀ h' tk, s.toks ≤ tk → (∀ b o, s.heap.get? b = some o → h'.get? b = some o) → Iv items.size h' → Q (.ref s.heap.objs.size) { heap := h', gens := s.gens, drawn := s.drawn, toks := tk, os := s.os }) :
    wpAny (model P w) A (call (.type "set") [.ref l]) Q E s := by
  have hl0 := hl
  obtain ⟨o, ho, hc, n, hd⟩ := hl
  have lt : l < s.heap.objs.size := Heap.lt_size ho
  refine call_set_by ⟨o, ho, hc⟩ F.sub_list_set F.sub_list_frozenset (by decide +kernel) ⟨o, Heap.get?_push_of_some _ ho, hc⟩ ?_
  refine wpAny_pyIter_list (hl0.push _) ?_
  dsimp only
  have sz : (s.heap.push (setNew w)).objs.size = s.heap.objs.size + 1 := Heap.size_push _ _
  rw [sz]
  refine wpAny_runValue ?_
  have ne : l ≠ s.heap.objs.size + 1 := Nat.ne_of_lt (Nat.lt_succ_of_lt lt)
  have W := Walks.toS (Walks.list (prog := P) (w := w) (A := A.in1.in1.in1) hA (s.heap.objs.size + 1) l ne items)
  refine set_update_by W s.heap.objs.size ?_ Iv ?_ ?_ items.size 0 _ (by omega) (Nat.zero_le _) ?_ ?_ ?_
  · intro m
    rcases List.mem_cons.mp m with h | h
    · exact absurd h (Nat.ne_of_lt (Nat.lt_succ_self _))
    · rcases List.mem_cons.mp h with h | h
      · exact absurd h (Nat.ne_of_gt lt)
      · cases h
  · intro i h h' iv k
    exact hk i h h' iv fun b o nb => k b o fun z => nb (List.mem_singleton.mp z)
  · exact fun i v s1 E' Q' _ pv iv q => step i v s1 E' Q' pv iv q
  · refine ⟨⟨{ cls := Value.type "list_iterator", data := Data.fields #[Value.ref l, Value.int 0 0] }, ?_, rfl, rfl⟩, (hl0.push _).push _⟩
    show ((s.heap.push (setNew w)).push _).get? (s.heap.objs.size + 1) = _
    rw [← sz]
    exact Heap.get?_push_size _ rfl
  · refine hk 0 _ _ h0 fun b o _ e => Heap.get?_push_of_some _ e
  · intro s' mv iv
    obtain ⟨h', g', d', t', os'⟩ := s'
    obtain ⟨m1, m2, m3, m4, m5⟩ := mv
    dsimp only at m1 m2 m3 m4 m5 iv ⊢
    subst m2 m3 m4
    refine fin h' t' m5 (fun b o' e => m1 b o' (fun m => ?_) (Heap.get?_push_of_some _ (Heap.get?_push_of_some _ e))) iv
    have lb : b < s.heap.objs.size := Heap.lt_size e
    rcases List.mem_cons.mp m with h | h
    · exact absurd h (Nat.ne_of_lt lb)
    · exact absurd (List.mem_singleton.mp h) (Nat.ne_of_lt (Nat.lt_succ_of_lt lb))
theorem set_tuple_by {P : Program} {w : World} {A : Around} {E : Value → Shared → Prop} {s : Shared} {l : Addr} {items : Array Value} {Q : Value → Shared → Prop}
    (hA : A.handled = none) (hl : s.heap.IsTuple l items) (Iv : Nat → Heap → Prop)
    (hk : ∀ i h h', Iv i h → (∀ b o, b ≠ s.heap.objs.size + 1 → h.get? b = some o → h'.get? b = some o) → Iv i h')
    (h0 : Iv 0 (s.heap.push (setNew w)))
    (step : ∀ i v (s1 : Shared) (E' : Value → Shared → Prop) (Q' : Bool → Shared → Prop), items[i]? = some v → Iv i s1.heap →
      (∀ b h' tk, s1.toks ≤ tk → Heap.SameBut s.heap.objs.size s1.heap h' → Iv (i + 1) h' → Q' b { heap := h', gens := s1.gens, drawn := s1.drawn, toks := tk, os := s1.os }) →
      wpAny (model P w) A.in1.in1.in1 (setAdd s.heap.objs.size v) Q' E' s1)
    (fin : ∀ h' tk, s.toks ≤ tk → (∀ b o, s.heap.get? b = some o → h'.get? b = some o) → Iv items.size h' → Q (.ref s.heap.objs.size) { heap := h', gens := s.gens, drawn := s.drawn, toks := tk, os := s.os }) :
    wpAny (model P w) A (call (.type "set") [.ref l]) Q E s := by
  have hl0 := hl
  obtain ⟨o, ho, hc, n, hd⟩ := hl
  have lt : l < s.heap.objs.size := Heap.lt_size ho
  have up : (s.heap.push (setNew w)).IsTuple l items := ⟨o, Heap.get?_push_of_some _ ho, hc, n, hd⟩
  refine call_set_by ⟨o, ho, hc⟩ F.sub_tuple_set F.sub_tuple_frozenset (by decide +kernel) ⟨o, Heap.get?_push_of_some _ ho, hc⟩ ?_
  refine wpAny_pyIter_tuple up ?_
  dsimp only
  have sz : (s.heap.push (setNew w)).objs.size = s.heap.objs.size + 1 := Heap.size_push _ _
  rw [sz]
  refine wpAny_runValue ?_
  have ne : l ≠ s.heap.objs.size + 1 := Nat.ne_of_lt (Nat.lt_succ_of_lt lt)
  have W := Walks.toS (Walks.tuple (prog := P) (w := w) (A := A.in1.in1.in1) hA (s.heap.objs.size + 1) l ne items)
  refine set_update_by W s.heap.objs.size ?_ Iv ?_ ?_ items.size 0 _ (by omega) (Nat.zero_le _) ?_ ?_ ?_
  · intro m
    rcases List.mem_cons.mp m with h | h
    · exact absurd h (Nat.ne_of_lt (Nat.lt_succ_self _))
    · rcases List.mem_cons.mp h with h | h
      · exact absurd h (Nat.ne_of_gt lt)
      · cases h
  · intro i h h' iv k
    exact hk i h h' iv fun b o nb => k b o fun z => nb (List.mem_singleton.mp z)
  · exact fun i v s1 E' Q' _ pv iv q => step i v s1 E' Q' pv iv q
  · refine ⟨⟨{ cls := Value.type "tuple_iterator", data := Data.fields #[Value.ref l, Value.int 0 0] }, ?_, rfl, rfl⟩, ⟨o, Heap.get?_push_of_some _ (Heap.get?_push_of_some _ ho), hc, n, hd⟩⟩
    show ((s.heap.push (setNew w)).push _).get? (s.heap.objs.size + 1) = _
    rw [← sz]
    exact Heap.get?_push_size _ rfl
  · refine hk 0 _ _ h0 fun b o _ e => Heap.get?_push_of_some _ e
  · intro s' mv iv
    obtain ⟨h', g', d', t', os'⟩ := s'
    obtain ⟨m1, m2, m3, m4, m5⟩ := mv
    dsimp only at m1 m2 m3 m4 m5 iv ⊢
    subst m2 m3 m4
    refine fin h' t' m5 (fun b o' e => m1 b o' (fun m => ?_) (Heap.get?_push_of_some _ (Heap.get?_push_of_some _ e))) iv
    have lb : b < s.heap.objs.size := Heap.lt_size e
    rcases List.mem_cons.mp m with h | h
    · exact absurd h (Nat.ne_of_lt lb)
    · exact absurd (List.mem_singleton.mp h) (Nat.ne_of_lt (Nat.lt_succ_of_lt lb))
end Lf

set_option maxHeartbeats 4000000
namespace Lf
open PySem PySem.Spec PyProof.Rows L2
def SetSO (w : World) (a : Addr) (l : List Str) : HO := .ext fun h => SetS w h a l
theorem setS_new {P : Program} {w : World} {H : Hp} {h : Heap} {a : Addr} {l : List Str} (g : SetS w h a l) : ObjOk P w H h a (SetSO w a l) := by
  refine ⟨g, ?_, fun h1 h2 g1 k => g1.at k⟩
  obtain ⟨o, es, ep, t, h1, _⟩ := g.ex
  exact ⟨o, h1⟩
theorem setS_get {X : Cx} {pins : List (Addr × Obj)} {σ : L2.St} {H : Hp} {s : Shared} {a : Addr} {l : List Str} (I : L2.Inv X pins σ H s) (e : H a = some (SetSO X.w a l)) : SetS X.w s.heap a l :=
  (I.hok _ _ e).1
theorem setS_fresh {w : World} {h : Heap} {a : Addr} (e : h.get? a = some (setNew w)) : SetS w h a [] :=
  ⟨_, _, _, _, e, ⟨rfl, rfl, rfl⟩, rfl, ⟨fun e he => (nomatch he), List.Perm.refl _, List.nodup_nil, by decide, rfl, List.Pairwise.nil, by
    cases w.params.followText "set-order"
    · exact .inr rfl
    · exact .inl rfl⟩⟩
theorem SetS.perm {w : World} {h : Heap} {a : Addr} {l l' : List Str} (g : SetS w h a l) (p : l.Perm l') : SetS w h a l' := by
  obtain ⟨o, es, ep, t, h1, h2, h3, h4⟩ := g.ex
  exact ⟨o, es, ep, t, h1, h2, h3, h4.perm p⟩
theorem SetS.nd {w : World} {h : Heap} {a : Addr} {l : List Str} (g : SetS w h a l) : l.Nodup := by
  obtain ⟨o, es, ep, t, h1, h2, h3, h4⟩ := g.ex
  exact h4.nd
/-- what stands in the set after so many of the texts -/
def IvS (w : World) (S : Addr) (ss : List Str) (i : Nat) (h : Heap) : Prop := ∃ ts, SetS w h S ts ∧ ts.length ≤ i ∧ ∀ x, x ∈ ts ↔ x ∈ ss.take i
theorem ivS_step {P : Program} {w : World} {A : Around} {S : Addr} {ss : List Str} {i : Nat} {x : Str} {tk : Tok} (hi : ss[i]? = some x) (hn : ss.length + 1 < scanBound)
    {s1 : Shared} {E' : Value → Shared → Prop} {Q' : Bool → Shared → Prop} (iv : IvS w S ss i s1.heap)
    (q : ∀ b h' tk, s1.toks ≤ tk → Heap.SameBut S s1.heap h' → IvS w S ss (i + 1) h' → Q' b { heap := h', gens := s1.gens, drawn := s1.drawn, toks := tk, os := s1.os }) :
    wpAny (model P w) A (setAdd S (.str x tk)) Q' E' s1 := by
  obtain ⟨ts, g, hl, hm⟩ := iv
  have hlt : i < ss.length := (List.getElem?_eq_some_iff.mp hi).1
  refine wpAny_holding (wpAny_bind (wpAny_pyHash_str ?_))
  refine setS_add (l := ts) g (by omega) fun b h' sb g' => q b h' (s1.toks + 1) (Nat.le_succ _) sb ⟨_, g', ?_, fun y => ?_⟩
  · split
    · omega
    · rw [List.length_cons]; omega
  · rw [L2.take_next hi, List.mem_append, List.mem_singleton, ← hm y]
    split
    · rename_i hx
      constructor
      · exact .inl
      · rintro (h | rfl)
        · exact h
        · exact hx
    · rw [List.mem_cons]
      exact Or.comm
section
variable {X : Cx}
def rSetOfS (K : PySem.W.Frag) (w : World) : List V → Hp → VK → Prop := fun xs H Q => ∃ (l : Addr) (ss : List Str), xs = [V.ref l] ∧ (SqL K H l (ss.map V.str) ∨ SqT K H l (ss.map V.str)) ∧ ss.length + 1 < scanBound ∧
  ∀ (a : Addr) (ts : List Str), H a = none → ts.Nodup → (∀ x, x ∈ ts ↔ x ∈ ss) → Q (.ref a) (upd H a (SetSO w a ts))
theorem valsStrAt : ∀ {ss : List Str} {us : List Value}, Vals (ss.map V.str) us → ∀ (i : Nat) (v : Value), us[i]? = some v → ∃ x tk, ss[i]? = some x ∧ v = Value.str x tk
  | [], us, h, i, v, e => by
    cases h
    cases e
  | x :: ss, us, h, i, v, e => by
    cases h with
    | cons r t =>
      cases i with
      | zero =>
        obtain ⟨tk, rfl⟩ := r
        cases e
        exact ⟨x, tk, rfl, rfl⟩
      | succ i => exact valsStrAt t i v e
theorem cr_setOfS (hc : X.calm = true) : CallR X (.type "set") (rSetOfS X.K X.w) := by
  intro pins s σ H xs us Q I r h
  obtain ⟨l, ss, rfl, hs, hn, q⟩ := h
  obtain ⟨u, rfl, ru⟩ := vals1 r
  obtain rfl : u = Value.ref l := ru
  have hA := I.ok.hd hc
  have fin : ∀ (n : Nat), n = ss.length → ∀ h' tk, s.toks ≤ tk → (∀ b o, s.heap.get? b = some o → h'.get? b = some o) → IvS X.w s.heap.objs.size ss n h' → EP X pins σ Q (.ref s.heap.objs.size) { heap := h', gens := s.gens, drawn := s.drawn, toks := tk, os := s.os } := by
    rintro n rfl h' tk ht ho ⟨ts, g, _, hm⟩
    rw [List.take_length] at hm
    exact ⟨.ref _, upd H s.heap.objs.size (SetSO X.w s.heap.objs.size ts), I.laid ho (Nat.le_refl _) (setS_new g), rfl, q _ ts (I.hok.fresh (Nat.le_refl _)) g.nd hm⟩
  have hk : ∀ i h h', IvS X.w s.heap.objs.size ss i h → (∀ b o, b ≠ s.heap.objs.size + 1 → h.get? b = some o → h'.get? b = some o) → IvS X.w s.heap.objs.size ss i h' := by
    rintro i h h' ⟨ts, g, k1, k2⟩ k
    exact ⟨ts, g.at fun o e => k _ o (Nat.ne_of_lt (Nat.lt_succ_self _)) e, k1, k2⟩
  have h0 : IvS X.w s.heap.objs.size ss 0 (s.heap.push (setNew X.w)) := ⟨[], setS_fresh (Heap.get?_push_size _ rfl), Nat.le_refl _, fun x => Iff.rfl⟩
  rcases hs with hs | hs
  · obtain ⟨its, rv, hl, hz⟩ := I.list hs
    have e : its.length = ss.length := by
      have := rv.length
      rw [List.length_map] at this
      exact this.symm
    refine set_list_by hA hl.isList (IvS X.w s.heap.objs.size ss) hk h0 (fun i v s1 E' Q' hi iv q' => ?_) (fin _ e)
    obtain ⟨x, tk, hx, rfl⟩ := valsStrAt rv i v (by simpa using hi)
    exact ivS_step hx hn iv q'
  · obtain ⟨its, rv, hl, hz⟩ := I.tuple hs
    have e : its.length = ss.length := by
      have := rv.length
      rw [List.length_map] at this
      exact this.symm
    refine set_tuple_by hA hl (IvS X.w s.heap.objs.size ss) hk h0 (fun i v s1 E' Q' hi iv q' => ?_) (fin _ e)
    obtain ⟨x, tk, hx, rfl⟩ := valsStrAt rv i v (by simpa using hi)
    exact ivS_step hx hn iv q'
end
end Lf

set_option maxHeartbeats 4000000
namespace Lf
open PySem PySem.Spec PyProof.Rows L2
def IvI (w : World) (S : Addr) (ns : List Int) (i : Nat) (h : Heap) : Prop := ∃ T n, SetR w h S T n ∧ n ≤ i ∧ ∀ k, T k = true ↔ k ∈ ns.take i
theorem ivI_step {P : Program} {w : World} {A : Around} {S : Addr} {ns : List Int} {i : Nat} {x : Int} {tk : Tok} (hi : ns[i]? = some x) (hn : ns.length + 1 < scanBound)
    {s1 : Shared} {E' : Value → Shared → Prop} {Q' : Bool → Shared → Prop} (iv : IvI w S ns i s1.heap)
    (q : ∀ b h' tk, s1.toks ≤ tk → Heap.SameBut S s1.heap h' → IvI w S ns (i + 1) h' → Q' b { heap := h', gens := s1.gens, drawn := s1.drawn, toks := tk, os := s1.os }) :
    wpAny (model P w) A (setAdd S (.int x tk)) Q' E' s1 := by
  obtain ⟨T, n, g, hl, hm⟩ := iv
  have hlt : i < ns.length := (List.getElem?_eq_some_iff.mp hi).1
  unfold setAdd
  refine wpAny_holding (wpAny_bind (wpAny_pyHash_int ?_))
  refine setR_add_hashed g (by omega) fun h' sb g' => q _ h' (s1.toks + 1) (Nat.le_succ _) sb ⟨_, _, g', ?_, fun y => ?_⟩
  · split <;> omega
  · rw [L2.take_next hi, List.mem_append, List.mem_singleton, ← hm y, Bool.or_eq_true, decide_eq_true_eq]
section
variable {X : Cx}
def rSetOfI (K : PySem.W.Frag) (w : World) : List V → Hp → VK → Prop := fun xs H Q => ∃ (l : Addr) (ns : List Int), xs = [V.ref l] ∧ (SqL K H l (ns.map V.int) ∨ SqT K H l (ns.map V.int)) ∧ ns.length + 1 < scanBound ∧
  ∀ (a : Addr) (T : Int → Bool) (n : Nat), H a = none → n ≤ ns.length → (∀ k, T k = true ↔ k ∈ ns) → Q (.ref a) (upd H a (SetO w a T n))
theorem valsIntAt : ∀ {ns : List Int} {us : List Value}, Vals (ns.map V.int) us → ∀ (i : Nat) (v : Value), us[i]? = some v → ∃ x tk, ns[i]? = some x ∧ v = Value.int x tk
  | [], us, h, i, v, e => by
    cases h
    cases e
  | x :: ns, us, h, i, v, e => by
    cases h with
    | cons r t =>
      cases i with
      | zero =>
        obtain ⟨tk, rfl⟩ := r
        cases e
        exact ⟨x, tk, rfl, rfl⟩
      | succ i => exact valsIntAt t i v e
theorem cr_setOfI (hc : X.calm = true) : CallR X (.type "set") (rSetOfI X.K X.w) := by
  intro pins s σ H xs us Q I r h
  obtain ⟨l, ns, rfl, hs, hn, q⟩ := h
  obtain ⟨u, rfl, ru⟩ := vals1 r
  obtain rfl : u = Value.ref l := ru
  have hA := I.ok.hd hc
  have fin : ∀ (m : Nat), m = ns.length → ∀ h' tk, s.toks ≤ tk → (∀ b o, s.heap.get? b = some o → h'.get? b = some o) → IvI X.w s.heap.objs.size ns m h' → EP X pins σ Q (.ref s.heap.objs.size) { heap := h', gens := s.gens, drawn := s.drawn, toks := tk, os := s.os } := by
    rintro m rfl h' tk ht ho ⟨T, n, g, hnl, hm⟩
    rw [List.take_length] at hm
    exact ⟨.ref _, upd H s.heap.objs.size (SetO X.w s.heap.objs.size T n), I.laid ho (Nat.le_refl _) (setO_new g), rfl, q _ T n (I.hok.fresh (Nat.le_refl _)) hnl hm⟩
  have hk : ∀ i h h', IvI X.w s.heap.objs.size ns i h → (∀ b o, b ≠ s.heap.objs.size + 1 → h.get? b = some o → h'.get? b = some o) → IvI X.w s.heap.objs.size ns i h' := by
    rintro i h h' ⟨T, n, g, k1, k2⟩ k
    exact ⟨T, n, g.at fun o e => k _ o (Nat.ne_of_lt (Nat.lt_succ_self _)) e, k1, k2⟩
  have h0 : IvI X.w s.heap.objs.size ns 0 (s.heap.push (setNew X.w)) := ⟨fun _ => false, 0, setR_fresh X.w, Nat.le_refl _, fun x => by simp⟩
  rcases hs with hs | hs
  · obtain ⟨its, rv, hl, hz⟩ := I.list hs
    have e : its.length = ns.length := by
      have := rv.length
      rw [List.length_map] at this
      exact this.symm
    refine set_list_by hA hl.isList (IvI X.w s.heap.objs.size ns) hk h0 (fun i v s1 E' Q' hi iv q' => ?_) (fin _ e)
    obtain ⟨x, tk, hx, rfl⟩ := valsIntAt rv i v (by simpa using hi)
    exact ivI_step hx hn iv q'
  · obtain ⟨its, rv, hl, hz⟩ := I.tuple hs
    have e : its.length = ns.length := by
      have := rv.length
      rw [List.length_map] at this
      exact this.symm
    refine set_tuple_by hA hl (IvI X.w s.heap.objs.size ns) hk h0 (fun i v s1 E' Q' hi iv q' => ?_) (fin _ e)
    obtain ⟨x, tk, hx, rfl⟩ := valsIntAt rv i v (by simpa using hi)
    exact ivI_step hx hn iv q'
end
end Lf

set_option maxHeartbeats 4000000
namespace Sm
open PySem PySem.Spec PyProof.Rows L2 Lf

/-! ## reading data as ints, truths, texts -/
def asInts : List PyData → Option (List Int)
  | [] => some []
  | .int i :: r => match asInts r with
    | some ns => some (i :: ns)
    | none => none
  | _ :: _ => none
def asBools : List PyData → Option (List Bool)
  | [] => some []
  | .bool i :: r => match asBools r with
    | some ns => some (i :: ns)
    | none => none
  | _ :: _ => none
def asStrs : List PyData → Option (List Str)
  | [] => some []
  | .str i :: r => match asStrs r with
    | some ns => some (i :: ns)
    | none => none
  | _ :: _ => none
theorem asInts_eq : ∀ {ds : List PyData} {ns : List Int}, asInts ds = some ns → ds = ns.map PyData.int
  | [], _, e => by cases e; rfl
  | .int i :: r, _, e => by
    unfold asInts at e
    split at e
    · rename_i ns e2
      cases e
      rw [asInts_eq e2]
      rfl
    · cases e
  | .none :: _, _, e => by cases e
  | .bool _ :: _, _, e => by cases e
  | .str _ :: _, _, e => by cases e
  | .list _ :: _, _, e => by cases e
  | .tuple _ :: _, _, e => by cases e
  | .dict _ :: _, _, e => by cases e
theorem asInts_map : ∀ ns : List Int, asInts (ns.map PyData.int) = some ns
  | [] => rfl
  | n :: ns => by
    show (match asInts (ns.map PyData.int) with
      | some ns => some (n :: ns)
      | none => none) = _
    rw [asInts_map ns]
theorem asBools_eq : ∀ {ds : List PyData} {ns : List Bool}, asBools ds = some ns → ds = ns.map PyData.bool
  | [], _, e => by cases e; rfl
  | .bool i :: r, _, e => by
    unfold asBools at e
    split at e
    · rename_i ns e2
      cases e
      rw [asBools_eq e2]
      rfl
    · cases e
  | .none :: _, _, e => by cases e
  | .int _ :: _, _, e => by cases e
  | .str _ :: _, _, e => by cases e
  | .list _ :: _, _, e => by cases e
  | .tuple _ :: _, _, e => by cases e
  | .dict _ :: _, _, e => by cases e
theorem asBools_map : ∀ ns : List Bool, asBools (ns.map PyData.bool) = some ns
  | [] => rfl
  | n :: ns => by
    show (match asBools (ns.map PyData.bool) with
      | some ns => some (n :: ns)
      | none => none) = _
    rw [asBools_map ns]
theorem asStrs_eq : ∀ {ds : List PyData} {ns : List Str}, asStrs ds = some ns → ds = ns.map PyData.str
  | [], _, e => by cases e; rfl
  | .str i :: r, _, e => by
    unfold asStrs at e
    split at e
    · rename_i ns e2
      cases e
      rw [asStrs_eq e2]
      rfl
    · cases e
  | .none :: _, _, e => by cases e
  | .int _ :: _, _, e => by cases e
  | .bool _ :: _, _, e => by cases e
  | .list _ :: _, _, e => by cases e
  | .tuple _ :: _, _, e => by cases e
  | .dict _ :: _, _, e => by cases e
theorem dvA_ints {cm : CM} {D : Hp} : ∀ {ns : List Int} {vs : List V}, DvA cm D vs (ns.map PyData.int) → vs = ns.map V.int
  | [], _, h => by cases h; rfl
  | n :: ns, _, h => by
    cases h with
    | cons h1 h2 =>
      cases h1
      rw [dvA_ints h2]
      rfl
theorem dvA_bools {cm : CM} {D : Hp} : ∀ {ns : List Bool} {vs : List V}, DvA cm D vs (ns.map PyData.bool) → vs = ns.map V.bl
  | [], _, h => by cases h; rfl
  | n :: ns, _, h => by
    cases h with
    | cons h1 h2 =>
      cases h1
      rw [dvA_bools h2]
      rfl
theorem dvA_strs {cm : CM} {D : Hp} : ∀ {ns : List Str} {vs : List V}, DvA cm D vs (ns.map PyData.str) → vs = ns.map V.str
  | [], _, h => by cases h; rfl
  | n :: ns, _, h => by
    cases h with
    | cons h1 h2 =>
      cases h1
      rw [dvA_strs h2]
      rfl
theorem DvA.strs {cm : CM} {D : Hp} : ∀ (ns : List Str), DvA cm D (ns.map V.str) (ns.map PyData.str)
  | [] => .nil
  | n :: ns => .cons (.str n) (DvA.strs ns)

/-! ## one argument -/
theorem dwA1 {cm : CM} {D H : Hp} {vs : List V} {a : PyData} (h : DwA cm D H vs [a]) : ∃ v, vs = [v] ∧ Dw cm D H v a := by
  cases h with
  | cons h1 h2 => cases h2; exact ⟨_, rfl, h1⟩
theorem dwA2 {cm : CM} {D H : Hp} {vs : List V} {a b : PyData} (h : DwA cm D H vs [a, b]) : ∃ v u, vs = [v, u] ∧ Dw cm D H v a ∧ Dw cm D H u b := by
  cases h with
  | cons h1 h2 =>
    obtain ⟨u, rfl, h3⟩ := dwA1 h2
    exact ⟨_, _, rfl, h1, h3⟩
/-- a list or a tuple, read -/
theorem Dw.seq {cm : CM} {D H : Hp} {v : V} {ds : List PyData} {K : PySem.W.Frag} (s : Same D H) (h : Dw cm D H v (.list ds) ∨ Dw cm D H v (.tuple ds)) : ∃ a xs, v = .ref a ∧ (SqL K H a xs ∨ SqT K H a xs) ∧ DvA cm D xs ds := by
  rcases h with h | h
  · obtain ⟨a, xs, rfl, h1, h2⟩ := h.lst s
    exact ⟨a, xs, rfl, .inl (.of h1), h2⟩
  · obtain ⟨a, xs, rfl, h1, h2⟩ := h.tup
    exact ⟨a, xs, rfl, .inr (.of (s _ _ h1)), h2⟩
def fLen : List PyData → Option PyData
  | [.list ds] => some (.int ds.length)
  | [.tuple ds] => some (.int ds.length)
  | [.str x] => if x.length ≤ big then some (.int x.length) else none
  | _ => none
def fSum : List PyData → Option PyData
  | [.list ds] => match asInts ds with
    | some ns => some (.int ns.sum)
    | none => none
  | _ => none
def minI : List Int → Int → Int
  | [], m => m
  | n :: ns, m => minI ns (if n < m then n else m)
def maxI : List Int → Int → Int
  | [], m => m
  | n :: ns, m => maxI ns (if n > m then n else m)
def fMin : List PyData → Option PyData
  | [.int i, .int j] => some (.int (if j < i then j else i))
  | [.list ds] => match asInts ds with
    | some (n :: ns) => some (.int (minI ns n))
    | _ => none
  | _ => none
def fMax : List PyData → Option PyData
  | [.int i, .int j] => some (.int (if j > i then j else i))
  | [.list ds] => match asInts ds with
    | some (n :: ns) => some (.int (maxI ns n))
    | _ => none
  | _ => none
def fAll : List PyData → Option PyData
  | [.list ds] => match asBools ds with
    | some bs => some (.bool (bs.all id))
    | none => none
  | _ => none
def fAny : List PyData → Option PyData
  | [.list ds] => match asBools ds with
    | some bs => some (.bool (bs.any id))
    | none => none
  | _ => none
def fAbs : List PyData → Option PyData
  | [.int i] => some (.int (if i < 0 then -i else i))
  | _ => none
def fInt : List PyData → Option PyData
  | [.int i] => some (.int i)
  | [.bool b] => some (.int (if b then 1 else 0))
  | _ => none
def fTuple : List PyData → Option PyData
  | [.list ds] => some (.tuple ds)
  | [.tuple ds] => some (.tuple ds)
  | _ => none
def fList : List PyData → Option PyData
  | [.list ds] => some (.list ds)
  | [.tuple ds] => some (.list ds)
  | _ => none
theorem minI_le : ∀ (ns : List Int) (m : Int), minI ns m ≤ m ∧ ∀ y ∈ ns, minI ns m ≤ y
  | [], m => ⟨Int.le_refl _, fun y h => by cases h⟩
  | n :: ns, m => by
    obtain ⟨h1, h2⟩ := minI_le ns (if n < m then n else m)
    show minI ns (if n < m then n else m) ≤ m ∧ _
    refine ⟨Int.le_trans h1 (by split <;> omega), fun y hy => ?_⟩
    rcases List.mem_cons.mp hy with rfl | hy
    · exact Int.le_trans h1 (by split <;> omega)
    · exact h2 y hy
theorem minI_mem : ∀ (ns : List Int) (m : Int), minI ns m ∈ m :: ns
  | [], m => List.mem_cons_self
  | n :: ns, m => by
    have h := minI_mem ns (if n < m then n else m)
    show minI ns (if n < m then n else m) ∈ _
    rcases List.mem_cons.mp h with h | h
    · rw [h]
      split
      · exact List.mem_cons_of_mem _ List.mem_cons_self
      · exact List.mem_cons_self
    · exact List.mem_cons_of_mem _ (List.mem_cons_of_mem _ h)
theorem maxI_le : ∀ (ns : List Int) (m : Int), m ≤ maxI ns m ∧ ∀ y ∈ ns, y ≤ maxI ns m
  | [], m => ⟨Int.le_refl _, fun y h => by cases h⟩
  | n :: ns, m => by
    obtain ⟨h1, h2⟩ := maxI_le ns (if n > m then n else m)
    show m ≤ maxI ns (if n > m then n else m) ∧ _
    refine ⟨Int.le_trans (by split <;> omega) h1, fun y hy => ?_⟩
    rcases List.mem_cons.mp hy with rfl | hy
    · exact Int.le_trans (by split <;> omega) h1
    · exact h2 y hy
theorem maxI_mem : ∀ (ns : List Int) (m : Int), maxI ns m ∈ m :: ns
  | [], m => List.mem_cons_self
  | n :: ns, m => by
    have h := maxI_mem ns (if n > m then n else m)
    show maxI ns (if n > m then n else m) ∈ _
    rcases List.mem_cons.mp h with h | h
    · rw [h]
      split
      · exact List.mem_cons_of_mem _ List.mem_cons_self
      · exact List.mem_cons_self
    · exact List.mem_cons_of_mem _ (List.mem_cons_of_mem _ h)
section
variable {X : Cx} {cm : CM}
theorem ca_or {g : Value} {f f' : List PyData → Option PyData} (h : Ca X cm g f) (h' : Ca X cm g f') : Ca X cm g (fun as => match f as with | some c => some c | none => f' as) := by
  obtain ⟨r, h1, h2⟩ := h
  obtain ⟨r', k1, k2⟩ := h'
  refine ⟨fun xs H Q => r xs H Q ∨ r' xs H Q, fun pins s σ H xs us Q I rv q => q.elim (h1 pins s σ H xs us Q I rv) (k1 pins s σ H xs us Q I rv), fun A S D F H xs as c Q w hx e q => ?_⟩
  dsimp only at e
  split at e
  · rename_i c' e'
    cases e
    exact .inl (h2 A S D F H xs as _ Q w hx e' q)
  · exact .inr (k2 A S D F H xs as c Q w hx e q)
theorem Ca.congr {g : Value} {f f' : List PyData → Option PyData} (h : Ca X cm g f) (k : ∀ as c, f' as = some c → f as = some c) : Ca X cm g f' := by
  obtain ⟨r, h1, h2⟩ := h
  exact ⟨r, h1, fun A S D F H xs as c Q w hx e q => h2 A S D F H xs as c Q w hx (k as c e) q⟩
def fLen1 : List PyData → Option PyData
  | [.list ds] => some (.int ds.length)
  | [.tuple ds] => some (.int ds.length)
  | _ => none
def fLen2 : List PyData → Option PyData
  | [.str x] => if x.length ≤ big then some (.int x.length) else none
  | _ => none
theorem c_len1 : Ca X cm (.builtin "len") fLen1 := ⟨_, call_len_seq, fun A S D F H xs as c Q w hx e q => by
  unfold fLen1 at e
  split at e
  · cases e
    obtain ⟨v, rfl, hv⟩ := dwA1 hx
    obtain ⟨a, ys, rfl, h1, h2⟩ := Dw.seq (K := X.K) w.sub (.inl hv)
    exact ⟨a, ys, rfl, h1, by rw [h2.length]; exact q D H _ w (.refl D) (.int _)⟩
  · cases e
    obtain ⟨v, rfl, hv⟩ := dwA1 hx
    obtain ⟨a, ys, rfl, h1, h2⟩ := Dw.seq (K := X.K) w.sub (.inr hv)
    exact ⟨a, ys, rfl, h1, by rw [h2.length]; exact q D H _ w (.refl D) (.int _)⟩
  · cases e⟩
theorem c_len2 : Ca X cm (.builtin "len") fLen2 := ⟨_, call_len_str, fun A S D F H xs as c Q w hx e q => by
  unfold fLen2 at e
  split at e
  · split at e
    · rename_i hl
      cases e
      obtain ⟨v, rfl, hv⟩ := dwA1 hx
      obtain rfl := hv.str
      exact ⟨_, rfl, Nat.le_of_lt (big_le hl), q D H _ w (.refl D) (.int _)⟩
    · cases e
  · cases e⟩
theorem c_len : Ca X cm (.builtin "len") fLen := (ca_or c_len1 c_len2).congr fun as c e => by
  unfold fLen at e
  split at e
  · exact e
  · exact e
  · exact e
  · cases e
theorem c_sum (hc : X.calm = true) : Ca X cm (.builtin "sum") fSum := ⟨_, cr_sum hc, fun A S D F H xs as c Q w hx e q => by
  unfold fSum at e
  split at e
  · split at e
    · rename_i ds ns ei
      cases e
      obtain ⟨v, rfl, hv⟩ := dwA1 hx
      obtain ⟨a, ys, rfl, h1, h2⟩ := hv.lst w.sub
      rw [asInts_eq ei] at h2
      rw [dvA_ints h2] at h1
      exact ⟨a, ns, rfl, .of h1, q D H _ w (.refl D) (.int _)⟩
    · cases e
  · cases e⟩
def fMin2 : List PyData → Option PyData
  | [.int i, .int j] => some (.int (if j < i then j else i))
  | _ => none
def fMinL : List PyData → Option PyData
  | [.list ds] => match asInts ds with
    | some (n :: ns) => some (.int (minI ns n))
    | _ => none
  | _ => none
theorem c_min2 (hc : X.calm = true) : Ca X cm (.builtin "min") fMin2 := ⟨_, call_min2 hc, fun A S D F H xs as c Q w hx e q => by
  unfold fMin2 at e
  split at e
  · cases e
    obtain ⟨v, u, rfl, hv, hu⟩ := dwA2 hx
    obtain rfl := hv.int
    obtain rfl := hu.int
    exact ⟨_, _, rfl, q D H _ w (.refl D) (.int _)⟩
  · cases e⟩
theorem c_minL (hc : X.calm = true) : Ca X cm (.builtin "min") fMinL := ⟨_, cr_min hc, fun A S D F H xs as c Q w hx e q => by
  unfold fMinL at e
  split at e
  · split at e
    · rename_i ds n ns ei
      cases e
      obtain ⟨v, rfl, hv⟩ := dwA1 hx
      obtain ⟨a, ys, rfl, h1, h2⟩ := hv.lst w.sub
      rw [asInts_eq ei] at h2
      rw [dvA_ints h2] at h1
      refine ⟨a, n :: ns, rfl, .of h1, by simp, fun m hm hle => ?_⟩
      have e : m = minI ns n := by
        obtain ⟨k1, k2⟩ := minI_le ns n
        have k3 := hle _ (minI_mem ns n)
        have k4 : minI ns n ≤ m := by
          rcases List.mem_cons.mp hm with rfl | hm
          · exact k1
          · exact k2 m hm
        omega
      rw [e]
      exact q D H _ w (.refl D) (.int _)
    · cases e
  · cases e⟩
theorem c_min (hc : X.calm = true) : Ca X cm (.builtin "min") fMin := (ca_or (c_min2 hc) (c_minL hc)).congr fun as c e => by
  unfold fMin at e
  split at e
  · exact e
  · exact e
  · cases e
def fMax2 : List PyData → Option PyData
  | [.int i, .int j] => some (.int (if j > i then j else i))
  | _ => none
def fMaxL : List PyData → Option PyData
  | [.list ds] => match asInts ds with
    | some (n :: ns) => some (.int (maxI ns n))
    | _ => none
  | _ => none
theorem c_max2 (hc : X.calm = true) : Ca X cm (.builtin "max") fMax2 := ⟨_, call_max2 hc, fun A S D F H xs as c Q w hx e q => by
  unfold fMax2 at e
  split at e
  · cases e
    obtain ⟨v, u, rfl, hv, hu⟩ := dwA2 hx
    obtain rfl := hv.int
    obtain rfl := hu.int
    exact ⟨_, _, rfl, q D H _ w (.refl D) (.int _)⟩
  · cases e⟩
theorem c_maxL (hc : X.calm = true) : Ca X cm (.builtin "max") fMaxL := ⟨_, cr_max hc, fun A S D F H xs as c Q w hx e q => by
  unfold fMaxL at e
  split at e
  · split at e
    · rename_i ds n ns ei
      cases e
      obtain ⟨v, rfl, hv⟩ := dwA1 hx
      obtain ⟨a, ys, rfl, h1, h2⟩ := hv.lst w.sub
      rw [asInts_eq ei] at h2
      rw [dvA_ints h2] at h1
      refine ⟨a, n :: ns, rfl, .of h1, by simp, fun m hm hle => ?_⟩
      have e : m = maxI ns n := by
        obtain ⟨k1, k2⟩ := maxI_le ns n
        have k3 := hle _ (maxI_mem ns n)
        have k4 : m ≤ maxI ns n := by
          rcases List.mem_cons.mp hm with rfl | hm
          · exact k1
          · exact k2 m hm
        omega
      rw [e]
      exact q D H _ w (.refl D) (.int _)
    · cases e
  · cases e⟩
theorem c_max (hc : X.calm = true) : Ca X cm (.builtin "max") fMax := (ca_or (c_max2 hc) (c_maxL hc)).congr fun as c e => by
  unfold fMax at e
  split at e
  · exact e
  · exact e
  · cases e
theorem c_all (hc : X.calm = true) : Ca X cm (.builtin "all") fAll := ⟨_, cr_all hc, fun A S D F H xs as c Q w hx e q => by
  unfold fAll at e
  split at e
  · split at e
    · rename_i ds ns ei
      cases e
      obtain ⟨v, rfl, hv⟩ := dwA1 hx
      obtain ⟨a, ys, rfl, h1, h2⟩ := hv.lst w.sub
      rw [asBools_eq ei] at h2
      rw [dvA_bools h2] at h1
      exact ⟨a, ns, rfl, .of h1, q D H _ w (.refl D) (.bl _)⟩
    · cases e
  · cases e⟩
theorem c_any (hc : X.calm = true) : Ca X cm (.builtin "any") fAny := ⟨_, cr_any hc, fun A S D F H xs as c Q w hx e q => by
  unfold fAny at e
  split at e
  · split at e
    · rename_i ds ns ei
      cases e
      obtain ⟨v, rfl, hv⟩ := dwA1 hx
      obtain ⟨a, ys, rfl, h1, h2⟩ := hv.lst w.sub
      rw [asBools_eq ei] at h2
      rw [dvA_bools h2] at h1
      exact ⟨a, ns, rfl, .of h1, q D H _ w (.refl D) (.bl _)⟩
    · cases e
  · cases e⟩
theorem c_abs : Ca X cm (.builtin "abs") fAbs := ⟨_, call_abs, fun A S D F H xs as c Q w hx e q => by
  unfold fAbs at e
  split at e
  · cases e
    obtain ⟨v, rfl, hv⟩ := dwA1 hx
    obtain rfl := hv.int
    exact ⟨_, rfl, q D H _ w (.refl D) (.int _)⟩
  · cases e⟩
theorem c_int : Ca X cm (.type "int") fInt := ⟨_, call_int1, fun A S D F H xs as c Q w hx e q => by
  unfold fInt at e
  split at e
  · cases e
    obtain ⟨v, rfl, hv⟩ := dwA1 hx
    obtain rfl := hv.int
    exact .inl ⟨_, rfl, q D H _ w (.refl D) (.int _)⟩
  · cases e
    obtain ⟨v, rfl, hv⟩ := dwA1 hx
    obtain rfl := hv.bl
    exact .inr ⟨_, rfl, q D H _ w (.refl D) (.int _)⟩
  · cases e⟩
theorem c_tuple : Ca X cm (.type "tuple") fTuple := ⟨_, call_tuple_of, fun A S D F H xs as c Q w hx e q => by
  unfold fTuple at e
  split at e
  · cases e
    obtain ⟨v, rfl, hv⟩ := dwA1 hx
    obtain ⟨a, ys, rfl, h1, h2⟩ := hv.lst w.sub
    refine ⟨a, ys, rfl, .inl ⟨.of h1, fun l nl => ?_⟩⟩
    obtain ⟨w', s'⟩ := w.new nl (.tup ys)
    exact q _ _ _ w' s' (.tup upd_same (h2.mono s'))
  · cases e
    obtain ⟨v, rfl, hv⟩ := dwA1 hx
    obtain ⟨a, ys, rfl, h1, h2⟩ := hv.tup
    exact ⟨a, ys, rfl, .inr ⟨.of (w.sub _ _ h1), q D H _ w (.refl D) (.tup h1 h2)⟩⟩
  · cases e⟩
theorem c_list : Ca X cm (.type "list") fList := ⟨_, call_list_of, fun A S D F H xs as c Q w hx e q => by
  unfold fList at e
  split at e
  · cases e
    obtain ⟨v, rfl, hv⟩ := dwA1 hx
    obtain ⟨a, ys, rfl, h1, h2⟩ := Dw.seq (K := X.K) w.sub (.inl hv)
    refine ⟨a, ys, rfl, h1, fun l nl => ?_⟩
    obtain ⟨w', s'⟩ := w.new nl (.lst ys)
    exact q _ _ _ w' s' (.lst upd_same (h2.mono s'))
  · cases e
    obtain ⟨v, rfl, hv⟩ := dwA1 hx
    obtain ⟨a, ys, rfl, h1, h2⟩ := Dw.seq (K := X.K) w.sub (.inr hv)
    refine ⟨a, ys, rfl, h1, fun l nl => ?_⟩
    obtain ⟨w', s'⟩ := w.new nl (.lst ys)
    exact q _ _ _ w' s' (.lst upd_same (h2.mono s'))
  · cases e⟩
end
end Sm

set_option maxHeartbeats 4000000
namespace Sm
open PySem PySem.Spec PyProof.Rows L2 Lf

mutual
theorem plain_lay : ∀ {d : PyData}, d.canLay0 = true → plainD d = true
  | .none, _ => rfl
  | .bool _, _ => rfl
  | .int _, _ => rfl
  | .str _, _ => rfl
  | .list ds, h => by
    rw [plainD]
    exact plains_lay (by simpa only [PyData.canLay0] using h)
  | .tuple ds, h => by
    rw [plainD]
    exact plains_lay (by simpa only [PyData.canLay0] using h)
  | .dict _, h => by simp [PyData.canLay0] at h
theorem plains_lay : ∀ {ds : List PyData}, PyData.canLayAll0 ds = true → plainDs ds = true
  | [], _ => rfl
  | d :: ds, h => by
    simp only [PyData.canLayAll0, Bool.and_eq_true] at h
    rw [plainDs, plain_lay h.1, plains_lay h.2]
    rfl
end
theorem shaped_plain {d : PyData} (h : SeqAt.shaped d = true) : plainD d = true := by
  have h' : (d.canLay0 && decide (d.depth ≤ 64)) = true := h
  rw [Bool.and_eq_true] at h'
  exact plain_lay h'.1
theorem Dw.dp {cm : CM} {K : PySem.W.Frag} {D H : Hp} {v : V} {d : PyData} (s : Same D H) (h : Dw cm D H v d) (p : plainD d = true) : Dp K H v d := ((h.inH s).dd p).dp

/-! ## comparing -/
def eqP : PyData → PyData → Option Bool
  | .int i, .int j => some (decide (i = j))
  | .str i, .str j => some (decide (i = j))
  | .bool i, .bool j => some (decide (i = j))
  | .none, .none => some true
  | a, b => if SeqAt.shaped a && SeqAt.shaped b then some (PyData.eqv a b) else none
def eqF (a b : PyData) : Option PyData := match eqP a b with
  | some c => some (.bool c)
  | none => none
def neF (a b : PyData) : Option PyData := match eqP a b with
  | some c => some (.bool !c)
  | none => none
section
variable {X : Cx} {cm : CM}
theorem eqP_cases {cm : CM} {D H : Hp} {x y : V} {a b : PyData} {c : Bool} {K : PySem.W.Frag} (s : Same D H) (hx : Dw cm D H x a) (hy : Dw cm D H y b) (e : eqP a b = some c) : (scal x y = true ∧ c = decide (x = y)) ∨ (Dp K H x a ∧ Dp K H y b ∧ SeqAt.shaped a = true ∧ SeqAt.shaped b = true ∧ c = PyData.eqv a b) := by
  unfold eqP at e
  split at e
  · cases e
    obtain rfl := hx.int
    obtain rfl := hy.int
    exact .inl ⟨rfl, by simp⟩
  · cases e
    obtain rfl := hx.str
    obtain rfl := hy.str
    exact .inl ⟨rfl, by simp⟩
  · cases e
    obtain rfl := hx.bl
    obtain rfl := hy.bl
    exact .inl ⟨rfl, by simp⟩
  · cases e
    obtain rfl := hx.non
    obtain rfl := hy.non
    exact .inl ⟨rfl, by simp⟩
  · split at e
    · rename_i h
      rw [Bool.and_eq_true] at h
      cases e
      exact .inr ⟨hx.dp s (shaped_plain h.1), hy.dp s (shaped_plain h.2), h.1, h.2, rfl⟩
    · cases e
theorem o_eq {k : Nat} (hr : Room k X.A) : Op2 X cm (compareOp .Eq) eqF := ⟨_, opR_or op_eq (op_eqD hr.units), fun A S D F H x y a b c Q w hx hy e q => by
  unfold eqF at e
  split at e
  · rename_i t e2
    cases e
    rcases eqP_cases (K := X.K) w.sub hx hy e2 with ⟨h1, rfl⟩ | ⟨h1, h2, h3, h4, rfl⟩
    · exact .inl ⟨h1, q D H _ w (.refl D) (.bl _)⟩
    · exact .inr ⟨_, _, h1, h2, h3, h4, q D H _ w (.refl D) (.bl _)⟩
  · cases e⟩
theorem o_ne {k : Nat} (hr : Room k X.A) : Op2 X cm (compareOp .NotEq) neF := ⟨_, opR_or op_ne (op_neD hr.units), fun A S D F H x y a b c Q w hx hy e q => by
  unfold neF at e
  split at e
  · rename_i t e2
    cases e
    rcases eqP_cases (K := X.K) w.sub hx hy e2 with ⟨h1, rfl⟩ | ⟨h1, h2, h3, h4, rfl⟩
    · exact .inl ⟨h1, q D H _ w (.refl D) (.bl _)⟩
    · exact .inr ⟨_, _, h1, h2, h3, h4, q D H _ w (.refl D) (.bl _)⟩
  · cases e⟩
def isNone : PyData → Bool
  | .none => true
  | _ => false
def isF : PyData → PyData → Option PyData
  | a, .none => some (.bool (isNone a))
  | _, _ => none
def isnF : PyData → PyData → Option PyData
  | a, .none => some (.bool !(isNone a))
  | _, _ => none
theorem isNone_dec {D H : Hp} {x : V} {a : PyData} (h : Dw cm D H x a) : decide (x = .non) = isNone a := by
  cases h with
  | d h => cases h <;> rfl
  | l h1 h2 => rfl
  | m h1 h2 => rfl
theorem o_is : Op2 X cm (compareOp .Is) isF := ⟨_, op_isN, fun A S D F H x y a b c Q w hx hy e q => by
  unfold isF at e
  split at e
  · cases e
    refine ⟨hy.non, ?_⟩
    rw [isNone_dec hx]
    exact q D H _ w (.refl D) (.bl _)
  · cases e⟩
theorem o_isn : Op2 X cm (compareOp .IsNot) isnF := ⟨_, op_notN, fun A S D F H x y a b c Q w hx hy e q => by
  unfold isnF at e
  split at e
  · cases e
    refine ⟨hy.non, ?_⟩
    rw [isNone_dec hx]
    exact q D H _ w (.refl D) (.bl _)
  · cases e⟩
def ltX (a b : PyData) : Option PyData := if PySem.W.alike a b && !isNone a && plainD a && plainD b && decide (a.depth ≤ 64) then some (.bool (PySem.W.dataLt a b)) else none
def ltF : PyData → PyData → Option PyData := orF (intOp fun i j => some (.bool (decide (i < j)))) ltX
def leF : PyData → PyData → Option PyData := intOp fun i j => some (.bool (decide (i ≤ j)))
def gtF : PyData → PyData → Option PyData := intOp fun i j => some (.bool (decide (j < i)))
def geF : PyData → PyData → Option PyData := intOp fun i j => some (.bool (decide (j ≤ i)))
theorem o_lt {k : Nat} (hr : Room k X.A) : Op2 X cm (compareOp .Lt) ltF := ⟨_, opR_or op_lt (op_ltD hr.units), (opF_rI0 fun D i j => .bl _).or fun A S D F H x y a b c Q w hx hy e q => by
  unfold ltX at e
  split at e
  · rename_i h
    simp only [Bool.and_eq_true, decide_eq_true_eq] at h
    obtain ⟨⟨⟨⟨h1, h2⟩, h3⟩, h4⟩, h5⟩ := h
    cases e
    exact ⟨a, b, hx.dp w.sub h3, hy.dp w.sub h4, h1, (fun z => by rw [z] at h2; cases h2), h5, q D H _ w (.refl D) (.bl _)⟩
  · cases e⟩
theorem o_le : Op2 X cm (compareOp .LtE) leF := ⟨_, op_le, opF_rI0 fun D i j => .bl _⟩
theorem o_gt : Op2 X cm (compareOp .Gt) gtF := ⟨_, op_gt, opF_rI0 fun D i j => .bl _⟩
theorem o_ge : Op2 X cm (compareOp .GtE) geF := ⟨_, op_ge, opF_rI0 fun D i j => .bl _⟩
/-! ## in -/
def rInTD (K : PySem.W.Frag) : R2 := fun x y H Q => ∃ d ds, Dp K H x d ∧ Dp K H y (.tuple ds) ∧ SeqAt.shaped d = true ∧ SeqAt.shaped (.tuple ds) = true ∧ Q (.bl (ds.any fun z => PyData.eqv z d)) H
theorem op_inTD (hu : X.A.units + 65 < cLine) : OpR X (compareOp .In) (rInTD X.K) := by
  intro pins s σ H x y v u Q I rx ry h
  obtain ⟨d, ds, hd, he, sd, se, q⟩ := h
  obtain ⟨as, r1⟩ := Dp.reads I d x v hd rx
  obtain ⟨bs, r2⟩ := Dp.reads I (.tuple ds) y u he ry
  exact SeqAt.in_tuple_reads r2 r1 (SeqAt.canLay_of_shaped se) (SeqAt.canLay_of_shaped sd) (room_in_shaped sd hu) ⟨.bl _, H, I, rfl, q⟩
def inL : PyData → PyData → Option Bool
  | d, .list ds => if SeqAt.shaped d && SeqAt.shaped (.list ds) then some (ds.any fun z => PyData.eqv z d) else none
  | _, _ => none
def inT : PyData → PyData → Option Bool
  | d, .tuple ds => if SeqAt.shaped d && SeqAt.shaped (.tuple ds) then some (ds.any fun z => PyData.eqv z d) else none
  | _, _ => none
def bF (f : PyData → PyData → Option Bool) (a b : PyData) : Option PyData := match f a b with
  | some c => some (.bool c)
  | none => none
def bnF (f : PyData → PyData → Option Bool) (a b : PyData) : Option PyData := match f a b with
  | some c => some (.bool !c)
  | none => none
def inF : PyData → PyData → Option PyData := orF (bF inL) (bF inT)
def ninF : PyData → PyData → Option PyData := orF (bnF inL) (bnF inT)
theorem units65 {k : Nat} {A : Around} (hr : Room k A) : A.units + 65 < cLine := by have := hr.un; omega
theorem o_in {k : Nat} (hr : Room k X.A) : Op2 X cm (compareOp .In) inF := ⟨_, opR_or (op_inD (units65 hr)) (op_inTD (units65 hr)), OpF.or (fun A S D F H x y a b c Q w hx hy e q => by
    unfold bF inL at e
    split at e
    · rename_i t e2
      cases e
      split at e2
      · split at e2
        · rename_i ds h
          rw [Bool.and_eq_true] at h
          cases e2
          exact ⟨_, _, hx.dp w.sub (shaped_plain h.1), hy.dp w.sub (shaped_plain h.2), h.1, h.2, q D H _ w (.refl D) (.bl _)⟩
        · cases e2
      · cases e2
    · cases e) (fun A S D F H x y a b c Q w hx hy e q => by
    unfold bF inT at e
    split at e
    · rename_i t e2
      cases e
      split at e2
      · split at e2
        · rename_i ds h
          rw [Bool.and_eq_true] at h
          cases e2
          exact ⟨_, _, hx.dp w.sub (shaped_plain h.1), hy.dp w.sub (shaped_plain h.2), h.1, h.2, q D H _ w (.refl D) (.bl _)⟩
        · cases e2
      · cases e2
    · cases e)⟩
theorem o_nin {k : Nat} (hr : Room k X.A) : Op2 X cm (compareOp .NotIn) ninF := ⟨_, opR_or (op_notInD (units65 hr)) (op_notInTD (units65 hr)), OpF.or (fun A S D F H x y a b c Q w hx hy e q => by
    unfold bnF inL at e
    split at e
    · rename_i t e2
      cases e
      split at e2
      · split at e2
        · rename_i ds h
          rw [Bool.and_eq_true] at h
          cases e2
          exact ⟨_, _, hx.dp w.sub (shaped_plain h.1), hy.dp w.sub (shaped_plain h.2), h.1, h.2, q D H _ w (.refl D) (.bl _)⟩
        · cases e2
      · cases e2
    · cases e) (fun A S D F H x y a b c Q w hx hy e q => by
    unfold bnF inT at e
    split at e
    · rename_i t e2
      cases e
      split at e2
      · split at e2
        · rename_i ds h
          rw [Bool.and_eq_true] at h
          cases e2
          exact ⟨_, _, hx.dp w.sub (shaped_plain h.1), hy.dp w.sub (shaped_plain h.2), h.1, h.2, q D H _ w (.refl D) (.bl _)⟩
        · cases e2
      · cases e2
    · cases e)⟩
/-! ## by place -/
def ixLT : PyData → PyData → Option PyData
  | .list ds, .int k => atI ds k
  | .tuple ds, .int k => atI ds k
  | _, _ => none
theorem atI_dv {D : Hp} {xs : List V} {ds : List PyData} {k : Int} {c : PyData} (h : DvA cm D xs ds) (e : atI ds k = some c) : ∃ v, atI xs k = some v ∧ Dv cm D v c := by
  unfold atI at e ⊢
  rw [h.length]
  cases e2 : ixN ds.length k with
  | none => rw [e2] at e; cases e
  | some j =>
    rw [e2] at e
    exact h.get' e
theorem i_seq : Ix2 X cm ixLT := ⟨_, ix_list.or ix_tup, fun A S D F H x y a b c Q w hx hy e q => by
  unfold ixLT at e
  split at e
  · obtain rfl := hy.int
    obtain ⟨p, xs, rfl, h1, h2⟩ := hx.lst w.sub
    obtain ⟨v, e2, hv⟩ := atI_dv h2 e
    exact .inl ⟨p, xs, _, v, rfl, rfl, .of h1, e2, q D H _ w (.refl D) hv⟩
  · obtain rfl := hy.int
    obtain ⟨p, xs, rfl, h1, h2⟩ := hx.tup
    obtain ⟨v, e2, hv⟩ := atI_dv h2 e
    exact .inr ⟨p, xs, _, v, rfl, rfl, .of (w.sub _ _ h1), e2, q D H _ w (.refl D) hv⟩
  · cases e⟩
end
/-! ## parts of lists and tuples -/
def tO (cm : CM) (W : WX) (f : Env → M (Option Int)) : TO := fun σ H Q => ∃ p : Pk, p.Ok cm σ H ∧ p.fin cm (f p.ρ p.S) (fun b _ D' H' => Q b H') (erW cm W σ)
abbrev GO (X : Cx) (cm : CM) (W : WX) (e : Option Expr) (f : Env → M (Option Int)) : Prop := PO X e (tO cm W f)
theorem po_imp {X : Cx} {e : Option Expr} {t t' : TO} (h : PO X e t) (k : ∀ σ H Q, t' σ H Q → t σ H Q) : PO X e t' := ⟨fun pins s σ H Q I q => h.run pins s σ H Q I (k _ _ _ q)⟩
def oNone : Env → M (Option Int) := fun _ S => .ok none S
def toI : Vl → M (Option Int)
  | .d (.int i) => fun S => .ok (some i) S
  | _ => fun _ => .no
def oSome (f : Ex) : Env → M (Option Int) := fun ρ S => (f ρ S).bind toI
def cutG {α : Type} (xs : List α) (lo hi : Option Int) : List α := (xs.drop (HT.sIx xs.length 0 lo)).take (HT.sIx xs.length xs.length hi - HT.sIx xs.length 0 lo)
def cutF (lo hi : Option Int) : PyData → Option PyData
  | .list ds => some (.list (cutG ds lo hi))
  | .tuple ds => some (.tuple (cutG ds lo hi))
  | _ => none
def eSl (f : Ex) (lo hi : Env → M (Option Int)) : Ex := fun ρ S => (f ρ S).bind fun x S1 => (lo ρ S1).bind fun l S2 => (hi ρ S2).bind fun h => lift1 (cutF l h) x
theorem SlR.or {X : Cx} {r r' : V → Option Int → Option Int → Hp → VK → Prop} (h : SlR X r) (h' : SlR X r') : SlR X (fun x l u H Q => r x l u H Q ∨ r' x l u H Q) :=
  fun pins s σ H x v vl vu lo hi sl Q I rx hs pl pu q => q.elim (h pins s σ H x v vl vu lo hi sl Q I rx hs pl pu) (h' pins s σ H x v vl vu lo hi sl Q I rx hs pl pu)
section
variable {X : Cx} {cm : CM} {W : WX} {e : Expr} {f : Ex} {pos p2 : Pos}
theorem po_non : GO X cm W none oNone := po_imp po_none fun σ H Q ⟨p, ok, h⟩ => h p.D H ok.wd (.refl _)
theorem po_som (h : GE X cm W e f) : GO X cm W (some e) (oSome f) := po_imp (po_some h) fun σ H Q ⟨p, ok, h⟩ => ⟨p, ok, (fin.bind h).imp (fun x S1 D1 H1 w s k v r => by
  unfold toI at k
  split at k
  · cases r
    exact ⟨_, rfl, k D1 H1 w (.refl _)⟩
  · exact absurd k id) fun _ _ _ _ _ _ z => z⟩
theorem cutG_dv {cm : CM} {D : Hp} {xs : List V} {ds : List PyData} {lo hi : Option Int} (h : DvA cm D xs ds) : DvA cm D (cutV xs lo hi) (cutG ds lo hi) := by
  unfold cutV cutG
  rw [h.length]
  exact (h.drop _).take _
theorem g_slice {lo hi : Option Expr} {fl fh : Env → M (Option Int)} (he : GE X cm W e f) (hl : GO X cm W lo fl) (hh : GO X cm W hi fh) : GE X cm W (.Subscript e (.Slice lo hi none p2) pos) (eSl f fl fh) :=
  pe_imp (pe_slice (SlR.or sl_list sl_tupA) he hl hh) fun σ H Q ⟨p, ok, h⟩ => ⟨p, ok, (fin.bind h).imp (fun x S1 D1 H1 w s k v r => ⟨⟨p.A, S1, D1, p.Ow, p.Fr, p.ρ⟩, ok.on w s, (fin.bind k).imp (fun l S2 D2 H2 w2 s2 k2 =>
    ⟨⟨p.A, S2, D2, p.Ow, p.Fr, p.ρ⟩, ok.on w2 (s.trans s2), (fin.bind k2).imp (fun u S3 D3 H3 w3 s3 k3 => by
      obtain ⟨a, c, h1, h2, h3⟩ := lift1_inv k3
      have hx := view_dw w3 h1 (r.mono (s2.trans s3))
      unfold cutF at h2
      split at h2
      · cases h2
        obtain ⟨q, xs, rfl, h4, h5⟩ := hx.lst w3.sub
        refine .inl ⟨q, xs, rfl, .of h4, fun m nm => ?_⟩
        obtain ⟨w', s'⟩ := w3.new nm (.lst (cutV xs l u))
        exact h3 _ _ w' s' _ (.lst upd_same ((cutG_dv h5).mono s'))
      · cases h2
        obtain ⟨q, xs, rfl, h4, h5⟩ := hx.tup
        refine .inr ⟨q, xs, rfl, .of (w3.sub _ _ h4), fun hw => ?_, fun _ m nm => ?_⟩
        · have e1 : cutG ‹List PyData› l u = ‹List PyData› := by
            unfold cutG
            rw [← h5.length, hw.1, hw.2, List.drop_zero, Nat.sub_zero, h5.length, List.take_length]
          rw [e1] at h3
          exact h3 _ _ w3 (.refl _) _ (.tup h4 h5)
        · obtain ⟨w', s'⟩ := w3.new nm (.tup (cutV xs l u))
          exact h3 _ _ w' s' _ (.tup upd_same ((cutG_dv h5).mono s'))
      · cases h2) fun _ _ _ _ _ _ z => z⟩) fun _ _ _ _ _ _ z => z⟩) fun _ _ _ _ _ _ z => z⟩
end
end Sm

set_option maxHeartbeats 4000000
namespace Sm
open PySem PySem.Spec PyProof.Rows L2 Lf

/-! ## -x -/
def negF : PyData → Option PyData
  | .int i => some (.int (-i))
  | _ => none
section
variable {X : Cx} {cm : CM} {W : WX} {a b e : Expr} {fa fb f : Ex} {pos : Pos}
theorem g_neg (ha : GE X cm W a fa) : GE X cm W (.UnaryOp .USub a pos) (e1 (lift1 negF) fa) :=
  pe_imp (pe_un un_neg ha) fun σ H Q ⟨p, ok, h⟩ => ⟨p, ok, (fin.bind h).imp (fun x S1 D1 H1 w s k v r => by
    obtain ⟨a, c, h1, h2, h3⟩ := lift1_inv k
    have hx := view_dw w h1 r
    unfold negF at h2
    split at h2
    · cases h2
      obtain rfl := hx.int
      exact ⟨_, rfl, h3 D1 H1 w (.refl _) _ (.int _)⟩
    · cases h2) fun _ _ _ _ _ _ z => z⟩
/-! ## a, b = x, y -/
def sPar (i j : Nat) (fa fb : Ex) : Sx := fun ρ S => sE (fa ρ S) ρ fun x S1 => sE (fb ρ S1) ρ fun y S2 => if notO x && notO y then some (.nx, (ρ.set i (some x)).set j (some y), S2) else none
theorem gs_par {i j : Nat} {x y : Str} {px py pt : Pos} {kt k2 pt2} (hc : X.calm = true) (hN : X.N.Nodup) (hi : X.N[i]? = some x) (hj : X.N[j]? = some y) (hij : i ≠ j)
    (hx : X.env.scope.names.lookup x = some .local) (hy : X.env.scope.names.lookup y = some .local) (ha : GE X cm W a fa) (hb : GE X cm W b fb) (hsa : starEach [a, b] X.env = (false, eval a X.env) :: starEach [b] X.env) (hsb : starEach [b] X.env = (false, eval b X.env) :: starEach [] X.env)
    (hw : swappedStores [.Tuple [.Name x px, .Name y py] kt pt] (.Tuple [a, b] k2 pt2) X.env = pure (some [x, y]))
    (hs : swapsWithSole [.Tuple [.Name x px, .Name y py] kt pt] (.Tuple [a, b] k2 pt2) pos.line X.env = pure false := by rfl) :
    GS X cm W (.Assign [.Tuple [.Name x px, .Name y py] kt pt] (.Tuple [a, b] k2 pt2) pos) (sPar i j fa fb) :=
  ps_imp (ps_par hc hN hi hj hij hx hy (pa_cons ha (pa_cons hb pa_nil hsb) hsa) hw hs) fun D σ H ⟨p, ok, h⟩ => by
    refine ⟨p, ok, finE (W := W) (okQ := fun x S1 D1 H1 => ∀ v, VR cm p.A D1 p.Ow x v → tCons (tE cm W fb) tNil σ H1 fun vs H2 => ∃ v' w', v :: vs = [v', w'] ∧ D.nx ((σ.set i (some v')).set j (some w')) H2) ok h (fun x S1 D1 H1 _ ok1 s k v r => ?_) fun e S1 D1 H1 z => z⟩
    refine ⟨⟨p.A, S1, D1, p.Ow, p.Fr, p.ρ⟩, ok1, finE (W := W) (okQ := fun y S2 D2 H2 => ∀ u, VR cm p.A D2 p.Ow y u → D.nx ((σ.set i (some v)).set j (some u)) H2) ok1 k (fun y S2 D2 H2 _ ok2 s2 k2 u r2 => ?_) (fun e S1 D1 H1 z => z) |>.imp (fun y S2 D2 H2 w2 s2 k2 u r2 => ⟨v, u, rfl, k2 u r2⟩) fun _ _ _ _ _ _ z => z⟩
    split at k2
    · rename_i hn
      rw [Bool.and_eq_true] at hn
      have n1 : isOwn (some (some x)) = false := notO_own hn.1
      have n2 : isOwn (some (some y)) = false := notO_own hn.2
      exact k2 D2 p.Ow _ H2 ⟨ok2.wd, (ok2.er.set (r.mono s2) n1).set r2 n2⟩ (.refl _)
    · exact absurd k2 id
/-! ## l[::-1] -/
def revF : PyData → Option PyData
  | .list ds => some (.list ds.reverse)
  | _ => none
theorem g_rev {k : Nat} {p1 p2 p3 : Pos} (he : GE X cm W e f) : GE X cm W (.Subscript e (.Slice none none (some (.UnaryOp .USub (.Constant (.int 1) k p1) p2)) p3) pos) (e1 (lift1 revF) f) :=
  pe_imp (pe_revL he) fun σ H Q ⟨p, ok, h⟩ => ⟨p, ok, (fin.bind h).imp (fun x S1 D1 H1 w s k v r => by
    obtain ⟨a, c, h1, h2, h3⟩ := lift1_inv k
    have hx := view_dw w h1 r
    unfold revF at h2
    split at h2
    · cases h2
      obtain ⟨q, xs, rfl, h4, h5⟩ := hx.lst w.sub
      refine ⟨q, xs, rfl, .of h4, fun m nm => ?_⟩
      obtain ⟨w', s'⟩ := w.new nm (.lst xs.reverse)
      exact h3 _ _ w' s' _ (.lst upd_same (h5.rev.mono s'))
    · cases h2) fun _ _ _ _ _ _ z => z⟩
/-! ## *x in a list of expressions -/
def asStar (a : Ex) (r : Exs) : Exs := fun ρ S => (a ρ S).bind fun x S1 => match x with
  | .d (.list ds) => (r ρ S1).bind fun xs S2 => .ok (ds.map Vl.d ++ xs) S2
  | .d (.tuple ds) => (r ρ S1).bind fun xs S2 => .ok (ds.map Vl.d ++ xs) S2
  | _ => .no
theorem vrs_map {A : List Addr} {D : Hp} {Ow : List (Addr × HO)} : ∀ {xs : List V} {ds : List PyData}, DvA cm D xs ds → VRs cm A D Ow (ds.map Vl.d) xs
  | _, [], h => by cases h; exact .nil
  | _, d :: ds, h => by
    cases h with
    | cons h1 h2 => exact .cons h1 (vrs_map h2)
theorem VRs.append {A : List Addr} {D : Hp} {Ow : List (Addr × HO)} : ∀ {xs ys : List Vl} {vs us : List V}, VRs cm A D Ow xs vs → VRs cm A D Ow ys us → VRs cm A D Ow (xs ++ ys) (vs ++ us)
  | _, _, _, _, .nil, k => k
  | _, _, _, _, .cons h t, k => .cons h (VRs.append t k)
theorem ga_star {es : List Expr} {fs : Exs} {p : Pos} (he : GE X cm W e f) (hr : GA X cm W es fs) (hs : starEach (.Starred e p :: es) X.env = (true, eval e X.env) :: starEach es X.env := by rfl) : GA X cm W (.Starred e p :: es) (asStar f fs) :=
  pa_imp (StX.pa_star he hr hs) fun σ H Q ⟨p, ok, h⟩ => ⟨p, ok, (fin.bind h).imp (fun x S1 D1 H1 w s k v r => by
    split at k
    · cases r with
      | @lst q xs ds h1 h2 => exact ⟨q, xs, rfl, .inr (.of (w.sub _ _ h1)), ⟨p.A, S1, D1, p.Ow, p.Fr, p.ρ⟩, ok.on w s, (fin.bind k).imp (fun ys S2 D2 H2 w2 s2 k2 us r2 => k2 D2 H2 w2 (.refl _) _ ((vrs_map (h2.mono s2)).append r2)) fun _ _ _ _ _ _ z => z⟩
    · cases r with
      | @tup q xs ds h1 h2 => exact ⟨q, xs, rfl, .inl (.of (w.sub _ _ h1)), ⟨p.A, S1, D1, p.Ow, p.Fr, p.ρ⟩, ok.on w s, (fin.bind k).imp (fun ys S2 D2 H2 w2 s2 k2 us r2 => k2 D2 H2 w2 (.refl _) _ ((vrs_map (h2.mono s2)).append r2)) fun _ _ _ _ _ _ z => z⟩
    · exact absurd k id) fun _ _ _ _ _ _ z => z⟩
end

/-! ## sorted(set(x)) of ints -/
def insU (x : Int) : List Int → List Int
  | [] => [x]
  | y :: ys => if x < y then x :: y :: ys else if x = y then y :: ys else y :: insU x ys
def ascI (ns : List Int) : List Int := ns.foldr insU []
theorem mem_insU {x z : Int} : ∀ {ys : List Int}, z ∈ insU x ys ↔ z = x ∨ z ∈ ys
  | [] => by simp [insU]
  | y :: ys => by
    unfold insU
    split
    · simp
    · split
      · rename_i h
        subst h
        simp
      · rw [List.mem_cons, mem_insU, List.mem_cons]
        exact ⟨fun h => h.elim (fun h => .inr (.inl h)) fun h => h.elim .inl fun h => .inr (.inr h), fun h => h.elim (fun h => .inr (.inl h)) fun h => h.elim .inl fun h => .inr (.inr h)⟩
theorem insU_up {x : Int} : ∀ {ys : List Int}, ys.Pairwise (· < ·) → (insU x ys).Pairwise (· < ·)
  | [], _ => by simp [insU]
  | y :: ys, h => by
    obtain ⟨h1, h2⟩ := List.pairwise_cons.mp h
    unfold insU
    split
    · rename_i c
      refine List.pairwise_cons.mpr ⟨fun z hz => ?_, h⟩
      rcases List.mem_cons.mp hz with rfl | hz
      · exact c
      · exact Int.lt_trans c (h1 z hz)
    · split
      · exact h
      · refine List.pairwise_cons.mpr ⟨fun z hz => ?_, insU_up h2⟩
        rcases mem_insU.mp hz with rfl | hz
        · omega
        · exact h1 z hz
theorem mem_ascI {z : Int} : ∀ {ns : List Int}, z ∈ ascI ns ↔ z ∈ ns
  | [] => Iff.rfl
  | n :: ns => by
    show z ∈ insU n (ascI ns) ↔ _
    rw [mem_insU, mem_ascI, List.mem_cons]
theorem ascI_up : ∀ (ns : List Int), (ascI ns).Pairwise (· < ·)
  | [] => List.Pairwise.nil
  | n :: ns => insU_up (ascI_up ns)
/-- ascending lists of the same members are the same -/
theorem up_unique : ∀ {xs ys : List Int}, xs.Pairwise (· < ·) → ys.Pairwise (· < ·) → (∀ z, z ∈ xs ↔ z ∈ ys) → xs = ys
  | [], [], _, _, _ => rfl
  | [], y :: ys, _, _, h => by have := (h y).mpr List.mem_cons_self; cases this
  | x :: xs, [], _, _, h => by have := (h x).mp List.mem_cons_self; cases this
  | x :: xs, y :: ys, h1, h2, h => by
    obtain ⟨a1, a2⟩ := List.pairwise_cons.mp h1
    obtain ⟨b1, b2⟩ := List.pairwise_cons.mp h2
    have e : x = y := by
      rcases List.mem_cons.mp ((h x).mp List.mem_cons_self) with e | e
      · exact e
      · rcases List.mem_cons.mp ((h y).mpr List.mem_cons_self) with e' | e'
        · exact e'.symm
        · have := a1 y e'
          have := b1 x e
          omega
    subst e
    rw [up_unique a2 b2 fun z => ⟨fun hz => ?_, fun hz => ?_⟩]
    · rcases List.mem_cons.mp ((h z).mp (List.mem_cons_of_mem _ hz)) with e | e
      · have := a1 z hz
        omega
      · exact e
    · rcases List.mem_cons.mp ((h z).mpr (List.mem_cons_of_mem _ hz)) with e | e
      · have := b1 z hz
        omega
      · exact e
def ssL (ds : List PyData) : Option (List PyData) := if ds.length < 64 then match asInts ds with
  | some ns => some ((ascI ns).map PyData.int)
  | none => none
  else none
/-- sorted(set(x)) -/
def ssF : PyData → Option PyData
  | .list ds => match ssL ds with
    | some es => some (.list es)
    | none => none
  | .tuple ds => match ssL ds with
    | some es => some (.list es)
    | none => none
  | _ => none
theorem ssF_inv {a c : PyData} (e : ssF a = some c) : ∃ ns, (a = .list (ns.map PyData.int) ∨ a = .tuple (ns.map PyData.int)) ∧ ns.length < 64 ∧ c = .list ((ascI ns).map PyData.int) := by
  have key : ∀ {ds es : List PyData}, ssL ds = some es → ∃ ns : List Int, ds = ns.map PyData.int ∧ ns.length < 64 ∧ es = (ascI ns).map PyData.int := fun {ds es} h => by
    unfold ssL at h
    split at h
    · rename_i hl
      split at h
      · rename_i ns e2
        cases h
        have := asInts_eq e2
        exact ⟨ns, this, by rw [this, List.length_map] at hl; exact hl, rfl⟩
      · cases h
    · cases h
  unfold ssF at e
  split at e
  · split at e
    · rename_i h
      cases e
      obtain ⟨ns, rfl, h1, rfl⟩ := key h
      exact ⟨ns, .inl rfl, h1, rfl⟩
    · cases e
  · split at e
    · rename_i h
      cases e
      obtain ⟨ns, rfl, h1, rfl⟩ := key h
      exact ⟨ns, .inr rfl, h1, rfl⟩
    · cases e
  · cases e
section
variable {X : Cx} {cm : CM} {W : WX} {e : Expr} {f : Ex} {p1 p2 pos pos2 : Pos}
theorem g_ss (hc : X.calm = true) (ms : X.mg "sorted" = none) (mt : X.mg "set" = none) (he : GE X cm W e f) (g1 : Gl X "sorted" := by rfl) (g2 : Gl X "set" := by rfl) (hs : starEach [e] X.env = (false, eval e X.env) :: starEach [] X.env := by rfl)
    (hs2 : starEach [Expr.Call (.Name "set" p2) [e] [] pos2] X.env = (false, eval (.Call (.Name "set" p2) [e] [] pos2) X.env) :: starEach [] X.env := by rfl) (hpl : (backTo pos (starEach [] X.env)).any (·.1) = false := by rfl) (hpl2 : (backTo pos2 (starEach [] X.env)).any (·.1) = false := by rfl) :
    GE X cm W (.Call (.Name "sorted" p1) [.Call (.Name "set" p2) [e] [] pos2] [] pos) (e1 (lift1 ssF) f) :=
  pe_imp (pe_callB (cr_sortedSet hc) g1 ms (by decide +kernel) (pa_cons (pe_callTy (cr_setOfI hc) g2 mt (by decide +kernel) (pa_cons he pa_nil hs) (by decide) (by decide) hs hpl2) pa_nil hs2) (by decide) (by decide) hs2 hpl) fun σ H Q ⟨p, ok, h⟩ => ⟨p, ok, (fin.bind h).imp (fun x S1 D1 H1 w s k v r => by
    obtain ⟨a, c, h1, h2, h3⟩ := lift1_inv k
    have hx := view_dw w h1 r
    obtain ⟨ns, ha, hl, rfl⟩ := ssF_inv h2
    have hx' : Dw cm D1 H1 v (.list (ns.map PyData.int)) ∨ Dw cm D1 H1 v (.tuple (ns.map PyData.int)) := by
      rcases ha with rfl | rfl
      · exact .inl hx
      · exact .inr hx
    obtain ⟨q, xs, rfl, h4, h5⟩ := Dw.seq (K := X.K) w.sub hx'
    rw [dvA_ints h5] at h4
    refine ⟨q, ns, rfl, h4, by show _ < 4096; omega, fun a T n na hn hT => ?_⟩
    refine ⟨a, T, n, rfl, upd_same, by omega, fun ms p2 up hm _ np => ?_⟩
    have em : ms = ascI ns := up_unique up (ascI_up ns) fun z => (hm z).trans ((hT z).trans mem_ascI.symm)
    rw [em]
    have w1 := w.newF na (SetO X.w a T n)
    obtain ⟨w2, s2⟩ := w1.new np (.lst ((ascI ns).map V.int))
    have w3 : Wd cm p.A S1 (upd D1 p2 (.lst ((ascI ns).map V.int))) (p.Ow ++ p.Fr) (upd (upd H1 a (SetO X.w a T n)) p2 (.lst ((ascI ns).map V.int))) := w2.drop (Ow := [])
    exact h3 _ _ w3 s2 _ (.lst upd_same ((DvA.ints _).mono s2))) fun _ _ _ _ _ _ z => z⟩
/-! ## sorted(x) of ints -/
def insS (x : Int) : List Int → List Int
  | [] => [x]
  | y :: ys => if y < x then y :: insS x ys else x :: y :: ys
def sortI (ns : List Int) : List Int := ns.foldr insS []
theorem insS_perm {x : Int} : ∀ {ys : List Int}, (insS x ys).Perm (x :: ys)
  | [] => .refl _
  | y :: ys => by
    unfold insS
    split
    · exact (List.Perm.cons y insS_perm).trans (List.Perm.swap x y ys)
    · exact .refl _
theorem insS_up {x : Int} : ∀ {ys : List Int}, ys.Pairwise (· ≤ ·) → (insS x ys).Pairwise (· ≤ ·)
  | [], _ => by simp [insS]
  | y :: ys, h => by
    obtain ⟨h1, h2⟩ := List.pairwise_cons.mp h
    unfold insS
    split
    · rename_i c
      refine List.pairwise_cons.mpr ⟨fun z hz => ?_, insS_up h2⟩
      rcases List.mem_cons.mp (insS_perm.mem_iff.mp hz) with rfl | hz
      · omega
      · exact h1 z hz
    · rename_i c
      refine List.pairwise_cons.mpr ⟨fun z hz => ?_, h⟩
      rcases List.mem_cons.mp hz with rfl | hz
      · omega
      · have := h1 z hz
        omega
theorem sortI_perm : ∀ (ns : List Int), (sortI ns).Perm ns
  | [] => .refl _
  | n :: ns => insS_perm.trans ((sortI_perm ns).cons n)
theorem sortI_up : ∀ (ns : List Int), (sortI ns).Pairwise (· ≤ ·)
  | [] => List.Pairwise.nil
  | n :: ns => insS_up (sortI_up ns)
theorem le_unique : ∀ {xs ys : List Int}, xs.Pairwise (· ≤ ·) → ys.Pairwise (· ≤ ·) → xs.Perm ys → xs = ys
  | [], ys, _, _, p => (List.Perm.nil_eq p)
  | x :: xs, [], _, _, p => absurd p.length_eq (by simp)
  | x :: xs, y :: ys, h1, h2, p => by
    obtain ⟨a1, a2⟩ := List.pairwise_cons.mp h1
    obtain ⟨b1, b2⟩ := List.pairwise_cons.mp h2
    have e : x = y := by
      rcases List.mem_cons.mp (p.mem_iff.mp List.mem_cons_self) with e | e
      · exact e
      · rcases List.mem_cons.mp (p.mem_iff.mpr List.mem_cons_self) with e' | e'
        · exact e'.symm
        · have := a1 y e'
          have := b1 x e
          omega
    subst e
    rw [le_unique a2 b2 (List.Perm.cons_inv p)]
def fSortedI : List PyData → Option PyData
  | [.list ds] => match asInts ds with
    | some ns => some (.list ((sortI ns).map PyData.int))
    | none => none
  | _ => none
theorem c_sortedI : Ca X cm (.builtin "sorted") fSortedI := ⟨_, cr_sortedI, fun A S D F H xs as c Q w hx e q => by
  unfold fSortedI at e
  split at e
  · split at e
    · rename_i ds ns ei
      cases e
      obtain ⟨v, rfl, hv⟩ := dwA1 hx
      obtain ⟨a, ys, rfl, h1, h2⟩ := hv.lst w.sub
      rw [asInts_eq ei] at h2
      rw [dvA_ints h2] at h1
      refine ⟨a, ns, rfl, .of h1, fun ms p pm up np => ?_⟩
      have em : ms = sortI ns := le_unique up (sortI_up ns) (pm.trans (sortI_perm ns).symm)
      rw [em]
      obtain ⟨w', s'⟩ := w.new np (.lst ((sortI ns).map V.int))
      exact q _ _ _ w' s' (.lst upd_same ((DvA.ints _).mono s'))
    · cases e
  · cases e⟩
end
end Sm

set_option maxHeartbeats 4000000
namespace Sm
open PySem PySem.Spec PyProof.Rows L2 Lf

/-! ## isinstance -/
theorem kitAny2 {K : PySem.W.Frag} {t : Value} {a b : Bool} {c1 c2 : Value} (h1 : PySem.W.kitOne K t c1 = some a) (h2 : PySem.W.kitOne K t c2 = some b) : PySem.W.kitAny K t [c1, c2] = some (a || b) := by
  refine kitAny_cons h1 (fun ha => kitAny_cons h2 (fun hb => ?_) (fun hb => by rw [hb, Bool.or_true])) (fun ha => by rw [ha, Bool.true_or])
  rw [ha, hb]
  exact kitAny_nil
/-- the built-in types that are asked for -/
inductive Ty where
  | list | tuple | str | bool | int
def Ty.name : Ty → String
  | .list => "list" | .tuple => "tuple" | .str => "str" | .bool => "bool" | .int => "int"
def Ty.has : Ty → PyData → Bool
  | .list, d => isLst d
  | .tuple, d => isTup d
  | .str, d => isStr d
  | .bool, d => isBl d
  | .int, d => isInt d
theorem kit_has {K : PySem.W.Frag} (t : Ty) (d : PyData) : PySem.W.kitOne K (.type (kindD d)) (.type t.name) = some (t.has d) := by
  cases t
  · exact kit_lst d
  · exact kit_tup d
  · exact kit_str d
  · exact kit_bl d
  · exact kit_int d
def noDct : PyData → Bool
  | .dict _ => false
  | _ => true
theorem Dw.ty {cm : CM} {K : PySem.W.Frag} {D H : Hp} {v : V} {d : PyData} (s : Same D H) (h : Dw cm D H v d) (n : noDct d = true) : TyX K H v (.type (kindD d)) := by
  cases h with
  | d h =>
    cases h with
    | non => exact .base .non
    | bl b => exact .base (.bl b)
    | int i => exact .base (.int i)
    | str x => exact .base (.str x)
    | lst h1 _ => exact .base (.lst (s _ _ h1))
    | tup h1 _ => exact .base (.tup (s _ _ h1))
    | dK _ _ _ => cases n
    | dT _ _ _ => cases n
    | ins _ _ _ => cases n
  | l h1 h2 => exact .base (.lst h1)
  | m h1 h2 => cases n
def isiF (t : Ty) (d : PyData) : Option PyData := if noDct d then some (.bool (t.has d)) else none
def isi2F (t u : Ty) (d : PyData) : Option PyData := if noDct d then some (.bool (t.has d || u.has d)) else none
section
variable {X : Cx} {cm : CM} {W : WX} {e : Expr} {f : Ex} {pi pt pt2 tp pos : Pos} {xt xu : Str} {kk : Nat}
theorem g_isi (t : Ty) (mi : X.mg "isinstance" = none) (mt : X.mg xt = none) (he : GE X cm W e f) (hv : bootBuiltins xt = some (.type t.name)) (g1 : Gl X "isinstance" := by rfl) (g2 : Gl X xt := by rfl) (hn : xt ≠ "__name__" := by decide) (hdb : (xt == ("__debug__" : Str)) = false := by decide)
    (hs : starEach [e, .Name xt pt] X.env = (false, eval e X.env) :: starEach [Expr.Name xt pt] X.env := by rfl) (hs2 : starEach [Expr.Name xt pt] X.env = (false, eval (.Name xt pt) X.env) :: starEach [] X.env := by rfl)
    (hpl : (backTo pos (starEach [Expr.Name xt pt] X.env)).any (·.1) = false := by rfl) :
    GE X cm W (.Call (.Name "isinstance" pi) [e, .Name xt pt] [] pos) (e1 (lift1 (isiF t)) f) :=
  pe_imp (pe_callB call_isi g1 mi (by decide +kernel) (pa_cons he (pa_cons (pe_bltn (v := .ty t.name) g2 mt hv rfl hn hdb) pa_nil hs2) hs) (by decide) (by decide) hs hpl) fun σ H Q ⟨p, ok, h⟩ => ⟨p, ok, (fin.bind h).imp (fun x S1 D1 H1 w s k v r => by
    obtain ⟨a, c, h1, h2, h3⟩ := lift1_inv k
    have hx := view_dw w h1 r
    unfold isiF at h2
    split at h2
    · rename_i hn
      cases h2
      exact ⟨v, .ty t.name, _, _, _, rfl, .ty _, hx.ty w.sub hn, kit_has t a, h3 D1 H1 w (.refl _) _ (.bl _)⟩
    · cases h2) fun _ _ _ _ _ _ z => z⟩
theorem g_isi2 (t u : Ty) (mi : X.mg "isinstance" = none) (mt : X.mg xt = none) (mu : X.mg xu = none) (he : GE X cm W e f) (hv : bootBuiltins xt = some (.type t.name)) (hu : bootBuiltins xu = some (.type u.name)) (g1 : Gl X "isinstance" := by rfl) (g2 : Gl X xt := by rfl) (g3 : Gl X xu := by rfl) (hn : xt ≠ "__name__" := by decide) (hdb : (xt == ("__debug__" : Str)) = false := by decide) (hn2 : xu ≠ "__name__" := by decide) (hdb2 : (xu == ("__debug__" : Str)) = false := by decide)
    (hs : starEach [e, .Tuple [.Name xt pt, .Name xu pt2] kk tp] X.env = (false, eval e X.env) :: starEach [Expr.Tuple [.Name xt pt, .Name xu pt2] kk tp] X.env := by rfl) (hs2 : starEach [Expr.Tuple [.Name xt pt, .Name xu pt2] kk tp] X.env = (false, eval (.Tuple [.Name xt pt, .Name xu pt2] kk tp) X.env) :: starEach [] X.env := by rfl)
    (hs3 : starEach [Expr.Name xt pt, .Name xu pt2] X.env = (false, eval (.Name xt pt) X.env) :: starEach [Expr.Name xu pt2] X.env := by rfl) (hs4 : starEach [Expr.Name xu pt2] X.env = (false, eval (.Name xu pt2) X.env) :: starEach [] X.env := by rfl)
    (hpl : (backTo pos (starEach [Expr.Tuple [.Name xt pt, .Name xu pt2] kk tp] X.env)).any (·.1) = false := by rfl) :
    GE X cm W (.Call (.Name "isinstance" pi) [e, .Tuple [.Name xt pt, .Name xu pt2] kk tp] [] pos) (e1 (lift1 (isi2F t u)) f) :=
  pe_imp (pe_callB call_isiT g1 mi (by decide +kernel) (pa_cons he (pa_cons (pe_tup (pa_cons (pe_bltn (v := .ty t.name) g2 mt hv rfl hn hdb) (pa_cons (pe_bltn (v := .ty u.name) g3 mu hu rfl hn2 hdb2) pa_nil hs4) hs3)) pa_nil hs2) hs) (by decide) (by decide) hs hpl) fun σ H Q ⟨p, ok, h⟩ => ⟨p, ok, (fin.bind h).imp (fun x S1 D1 H1 w s k v r => by
    obtain ⟨a, c, h1, h2, h3⟩ := lift1_inv k
    have hx := view_dw w h1 r
    unfold isi2F at h2
    split at h2
    · rename_i hn
      cases h2
      refine ⟨by show 2 ≤ sizeLine; decide, fun q nq => ?_⟩
      have w2 := w.newF nq (.tup [.ty t.name, .ty u.name])
      have w3 : Wd cm p.A S1 D1 (p.Ow ++ p.Fr) (upd H1 q (.tup [.ty t.name, .ty u.name])) := w2.drop (Ow := [])
      have hx2 : Dw cm D1 (upd H1 q (.tup [.ty t.name, .ty u.name])) v a := by
        cases hx with
        | d z => exact .d z
        | l z1 z2 => exact .l (by rw [upd_ne (fun z => by rw [z, nq] at z1; cases z1)]; exact z1) z2
        | m z1 z2 => exact .m (by rw [upd_ne (fun z => by rw [z, nq] at z1; cases z1)]; exact z1) z2
      exact ⟨v, q, _, _, _, _, rfl, upd_same, .cons (.ty _) (.cons (.ty _) .nil), hx2.ty w3.sub hn, kitAny2 (kit_has t a) (kit_has u a), h3 D1 _ w3 (.refl _) _ (.bl _)⟩
    · cases h2) fun _ _ _ _ _ _ z => z⟩
end
/-! ## min(l, default=None) of ints -/
def fMinD : PyData → Option PyData
  | .list ds => match asInts ds with
    | some [] => some .none
    | some (n :: ns) => some (.int (minI ns n))
    | none => none
  | _ => none
def rMinD (K : PySem.W.Frag) : List V → List V → Hp → VK → Prop := fun vs zs H Q => ∃ (a : Addr) (ns : List Int), vs = [V.ref a] ∧ zs = [.non] ∧ SqL K H a (ns.map V.int) ∧ (ns = [] → Q .non H) ∧ ∀ m ms, ns = m :: ms → Q (.int (minI ms m)) H
theorem minI_fold (n : Int) (ns : List Int) : ns.foldl (fun a y => if y < a then y else a) n = minI ns n := by
  induction ns generalizing n with
  | nil => rfl
  | cons m ns ih => exact ih _
theorem readsAll_ints {h : Heap} : ∀ {ns : List Int} {us : List Value}, Vals (ns.map V.int) us → ∃ as, PySem.ReadsAll h us (ns.map PyData.int) as
  | [], _, r => by cases r; exact ⟨_, .nil⟩
  | n :: ns, _, r => by
    cases r with
    | cons r1 r2 =>
      obtain ⟨t, rfl⟩ := r1
      obtain ⟨as, h2⟩ := readsAll_ints (h := h) r2
      exact ⟨_, .cons (.int n t) h2⟩
theorem depthAll_ints : ∀ ns : List Int, PyData.depthAll (ns.map PyData.int) = 0
  | [] => by simp [PyData.depthAll]
  | n :: ns => by
    have := depthAll_ints ns
    simp only [List.map_cons, PyData.depthAll, PyData.depth]
    omega
theorem alikeAll_ints : ∀ ns : List Int, PySem.W.AlikeAll (ns.map PyData.int) := fun ns => by
  refine ⟨fun d hd e he => ?_, fun d hd => ?_⟩
  · obtain ⟨i, _, rfl⟩ := List.mem_map.mp hd
    obtain ⟨j, _, rfl⟩ := List.mem_map.mp he
    simp [PySem.W.alike]
  · obtain ⟨i, _, rfl⟩ := List.mem_map.mp hd
    exact fun z => nomatch z
section
variable {X : Cx} {cm : CM} {W : WX} {e : Expr} {f : Ex} {p1 pos kp cp : Pos} {j : Nat}
theorem crk_minD {k : Nat} (hr : Room k X.A) (hc : X.calm = true) : CallRK X (.builtin "min") ([(Str.ofString "default")] : List Str) (rMinD X.K) := by
  intro pins s σ H xs zs us ws Q I r1 r2 h
  obtain ⟨a, ns, rfl, rfl, hl, h0, h1⟩ := h
  obtain ⟨u, rfl, ru⟩ := vals1 r1
  obtain rfl : u = Value.ref a := ru
  obtain ⟨u2, rfl, ru2⟩ := vals1 r2
  obtain rfl : u2 = Value.none := ru2
  obtain ⟨its, rv, hp, hz⟩ := I.list hl
  obtain ⟨as, hR⟩ := readsAll_ints (h := s.heap) rv
  refine PySem.W.min_list_default (I.ok.hd hc) hp.isList (by simpa using hR) (alikeAll_ints ns) (by rw [depthAll_ints]; have := hr.un; omega) (fun e h' tk k => ?_) fun y ys i v h' tk bs e ei rd k => ?_
  · have e2 : ns = [] := by
      cases ns with
      | nil => rfl
      | cons _ _ => cases e
    exact ⟨.non, H, I.kept k, rfl, h0 e2⟩
  · cases ns with
    | nil => cases e
    | cons m ms =>
      have e3 : y = .int m ∧ ys = ms.map PyData.int := by
        rw [List.map_cons] at e
        injection e with e1 e2
        exact ⟨e1.symm, e2.symm⟩
      obtain ⟨rfl, rfl⟩ := e3
      have e4 : PySem.W.minD (.int m) (ms.map PyData.int) = .int (minI ms m) := by
        rw [PySem.W.minD_ints]
        rw [← minI_fold]
        congr 2
        funext a b
        show min a b = if b < a then b else a
        rw [Int.min_def]
        split <;> split <;> omega
      rw [e4] at rd
      cases rd with
      | int _ t => exact ⟨.int _, H, I.kept k, ⟨t, rfl⟩, h1 m ms rfl⟩
theorem g_minD {k : Nat} (hr : Room k X.A) (hc : X.calm = true) (mm : X.mg "min" = none) (he : GE X cm W e f) (g1 : Gl X "min" := by rfl)
    (he2 : backTo pos (starEach [e] X.env) = (false, eval e X.env) :: backTo pos (starEach [] X.env) := by rfl) (hpl : (backTo pos (starEach [e] X.env)).any (·.1) = false := by rfl) (hs : starEach [e] X.env = (false, eval e X.env) :: starEach [] X.env := by rfl)
    (hall : (backToKw pos (keywordEach [⟨some "default", .Constant .none j cp, kp⟩] X.env)).all (·.1.isSome) = true := by rfl) (hnone : (backToKw pos (keywordEach [⟨some "default", .Constant .none j cp, kp⟩] X.env)).any (·.1.isNone) = false := by rfl) (hks : (backToKw pos (keywordEach [⟨some "default", .Constant .none j cp, kp⟩] X.env)).filterMap (·.1) = ([(Str.ofString "default")] : List Str) := by rfl) :
    GE X cm W (.Call (.Name "min" p1) [e] [⟨some "default", .Constant .none j cp, kp⟩] pos) (e1 (lift1 fMinD) f) :=
  pe_imp (pe_callBK (crk_minD hr hc) g1 mm (by decide +kernel) (pa_cons he pa_nil hs) (pk_cons pe_non pk_nil) (by decide) (by decide) he2 hpl hall hnone hks) fun σ H Q ⟨p, ok, h⟩ => ⟨p, ok, (fin.bind h).imp (fun x S1 D1 H1 w s k v r => by
    obtain ⟨a, c, h1, h2, h3⟩ := lift1_inv k
    have hx := view_dw w h1 r
    unfold fMinD at h2
    split at h2
    · rename_i ds
      obtain ⟨q, xs, rfl, h4, h5⟩ := hx.lst w.sub
      split at h2
      · rename_i ei
        cases h2
        rw [asInts_eq ei] at h5
        rw [dvA_ints h5] at h4
        exact ⟨q, [], rfl, rfl, .of h4, fun _ => h3 D1 H1 w (.refl _) _ .non, fun m ms z => nomatch z⟩
      · rename_i n ns ei
        cases h2
        rw [asInts_eq ei] at h5
        rw [dvA_ints h5] at h4
        refine ⟨q, n :: ns, rfl, rfl, .of h4, (fun z => nomatch z), fun m ms z => ?_⟩
        cases z
        exact h3 D1 H1 w (.refl _) _ (.int _)
      · cases h2
    · cases h2) fun _ _ _ _ _ _ z => z⟩
end
end Sm

set_option maxHeartbeats 4000000
namespace Sm
open PySem PySem.Spec PyProof.Rows L2 Lf

/-! ## a < b <= c -/
def eChain (f g : PyData → PyData → Option PyData) (a b c : Ex) : Ex := fun ρ S => (a ρ S).bind fun x S1 => (b ρ S1).bind fun y S2 => (lift2 f x y S2).bind fun t S3 => match t with
  | .d (.bool true) => (c ρ S3).bind (lift2 g y)
  | .d (.bool false) => .ok (.d (.bool false)) S3
  | _ => .no
section
variable {X : Cx} {cm : CM} {W : WX} {a b c : Expr} {fa fb fc : Ex} {pos : Pos}
theorem chain_red {r r' : R2} {f g : PyData → PyData → Option PyData} (hf : OpF cm r f) (hg : OpF cm r' g) {σ : L2.St} {H : Hp} {Q : VK} (h : tE cm W (eChain f g fa fb fc) σ H Q) : tChain r r' (tE cm W fa) (tE cm W fb) (tE cm W fc) σ H Q := by
  obtain ⟨p, ok, h⟩ := h
  refine ⟨p, ok, (fin.bind h).imp (fun x S1 D1 H1 w s k v r1 => ?_) fun _ _ _ _ _ _ z => z⟩
  refine ⟨⟨p.A, S1, D1, p.Ow, p.Fr, p.ρ⟩, ok.on w s, (fin.bind k).imp (fun y S2 D2 H2 w2 s2 k2 u r2 => ?_) fun _ _ _ _ _ _ z => z⟩
  obtain ⟨a, b, c, h1, h2, h3, h4⟩ := lift2_inv (fin.bind k2)
  refine hf _ _ _ _ _ _ _ _ _ _ _ w2 (view_dw w2 h1 (r1.mono s2)) (view_dw w2 h2 r2) h3 fun D3 H3 v3 w3 s3 hv3 => ?_
  have k3 := h4 D3 H3 w3 s3
  split at k3
  · rename_i e
    cases e
    cases hv3
    refine ⟨true, rfl, ?_⟩
    rw [if_pos rfl]
    refine ⟨⟨p.A, S2, D3, p.Ow, p.Fr, p.ρ⟩, ok.on w3 (s.trans (s2.trans s3)), (fin.bind k3).imp (fun z S4 D4 H4 w4 s4 k4 t r4 => ?_) fun _ _ _ _ _ _ z => z⟩
    obtain ⟨a', b', c', g1, g2, g3, g4⟩ := lift2_inv k4
    exact hg _ _ _ _ _ _ _ _ _ _ _ w4 (view_dw w4 g1 (r2.mono (s3.trans s4))) (view_dw w4 g2 r4) g3 fun D' H' v w' s' hv => g4 D' H' w' s' v hv
  · rename_i e
    cases e
    cases hv3
    refine ⟨false, rfl, ?_⟩
    rw [if_neg Bool.false_ne_true]
    exact k3 D3 H3 w3 (.refl _) _ (.bl _)
  · exact absurd k3 id
theorem g_chain {op op' : CmpOp} {f g : PyData → PyData → Option PyData} (o : Op2 X cm (compareOp op) f) (o' : Op2 X cm (compareOp op') g) (ha : GE X cm W a fa) (hb : GE X cm W b fb) (hc : GE X cm W c fc) (hm : lastMarks [op, op'] [b, c] = false := by with_unfolding_all rfl) :
    GE X cm W (.Compare a [op, op'] [b, c] pos) (eChain f g fa fb fc) := by
  obtain ⟨r, ho, hf⟩ := o
  obtain ⟨r', ho', hg⟩ := o'
  exact pe_imp (pe_chain ho ho' ha hb hc hm) fun σ H Q h => chain_red hf hg h
theorem gt_chain {op op' : CmpOp} {f g : PyData → PyData → Option PyData} (o : Op2 X cm (compareOp op) f) (o' : Op2 X cm (compareOp op') g) (ha : GE X cm W a fa) (hb : GE X cm W b fb) (hc : GE X cm W c fc) (hm : lastMarks [op, op'] [b, c] = false := by with_unfolding_all rfl) :
    GT X cm W (.Compare a [op, op'] [b, c] pos) (eTest (eChain f g fa fb fc)) := by
  obtain ⟨r, ho, hf⟩ := o
  obtain ⟨r', ho', hg⟩ := o'
  refine pt_imp (pt_chain ho ho' ha hb hc hm) fun σ H Q ⟨p, ok, h⟩ => ?_
  refine chain_red (W := W) hf hg ⟨p, ok, (fin.bind h).imp (fun x S1 D1 H1 w s k v r1 => ?_) fun _ _ _ _ _ _ z => z⟩
  obtain ⟨t, e, h5⟩ := toB_inv k
  cases e
  cases r1
  exact ⟨t, rfl, h5 D1 H1 w (.refl _)⟩
/-! ## what is never come to -/
def sStuck : Sx := fun _ _ => none
theorem gs_never {st : Stmt} : GS X cm W st sStuck := ps_imp ps_never fun D σ H ⟨p, ok, h⟩ => h
end
section
variable {P : Program} {w : World} {K : PySem.W.Frag} {mg : Str → Option Value} {base : Heap} {f : Addr} {fd : FuncData} {cm : CM}
/-- the def that is not known yet -/
def fNo : Fn := fun _ _ => .no
theorem fn_none {ps : List Str} {k : Nat} : FnOk P w K mg base (L2.CX P w) k f fd ps (spF cm ps.length fNo) :=
  ⟨fun vs H Q E ⟨_, _, _, _, _, _, _, _, h⟩ => absurd h id, fun A outer s H args us vs Q E _ _ _ _ ⟨_, _, _, _, _, _, _, _, h⟩ => absurd h id⟩
theorem GF.mono {x : Str} {ps : List Str} {F : Fn} {j k : Nat} (h : GF P w K mg base cm j x ps F) (l : j ≤ k) : GF P w K mg base cm k x ps F := by
  obtain ⟨f, fd, ok, r⟩ := h
  exact ⟨f, fd, ok.mono l, r⟩
end
end Sm

set_option maxHeartbeats 4000000
namespace Sm
open PySem PySem.Spec PyProof.Rows L2 Lf

/-! ## zip -/
def zipD (ds es : List PyData) : List PyData := List.zipWith (fun a b => .tuple [a, b]) ds es
def zip2 : List Vl → M (List PyData)
  | [.d (.list ds), .d (.list es)] => fun S => .ok (zipD ds es) S
  | [.d (.tuple ds), .d (.tuple es)] => fun S => .ok (zipD ds es) S
  | _ => fun _ => .no
theorem walk_zipT2 {K : PySem.W.Frag} {a b : Addr} {xs ys : List V} {n : Nat} (hn : n = min xs.length ys.length) : Walk (RZ.ItzT K a b) n (fun H => SqT K H a xs ∧ SqT K H b ys) (YPair (fun i => xs[i]?) (fun i => ys[i]?)) := by
  subst hn
  refine ⟨fun i _ hi q => ?_, fun _ q => ⟨xs, ys, q.1, q.2, by omega⟩, fun i H v H' _ q y => ?_⟩
  · have h1 : i < xs.length := by omega
    have h2 : i < ys.length := by omega
    exact ⟨xs, ys, xs[i], ys[i], q.1, q.2, by simp [h1], by simp [h2]⟩
  · obtain ⟨T, x, z, h1, h2, h3, h4, h5⟩ := y
    exact ⟨T, x, z, h1, h2, h3, h4 xs q.1, h5 ys q.2⟩
section
variable {cm : CM} {D0 : Hp} {ds es : List PyData}
theorem yh_pair {xs ys : List V} (hd : DvA cm D0 xs ds) (he : DvA cm D0 ys es) {i : Nat} {H : Hp} {x : V} {H' : Hp} (y : YPair (fun i => xs[i]?) (fun i => ys[i]?) i H x H') : YH cm D0 (zipD ds es) i H x H' := by
  intro A S D F wd s
  obtain ⟨T, x1, x2, rfl, nT, rfl, e1, e2⟩ := y
  obtain ⟨d1, g1, k1⟩ := hd.get e1
  obtain ⟨d2, g2, k2⟩ := he.get e2
  obtain ⟨w', s'⟩ := wd.new nT (.tup [x1, x2])
  refine ⟨_, .tuple [d1, d2], ?_, w', s', .tup upd_same (.cons (k1.mono (s.trans s')) (.cons (k2.mono (s.trans s')) .nil))⟩
  unfold zipD
  rw [List.getElem?_zipWith, g1, g2]
theorem zipD_len {xs ys : List V} (hd : DvA cm D0 xs ds) (he : DvA cm D0 ys es) : (zipD ds es).length = min xs.length ys.length := by
  unfold zipD
  rw [List.length_zipWith, hd.length, he.length]
theorem yl_zip {K : PySem.W.Frag} {a b : Addr} {xs ys : List V} (h1 : D0 a = some (.lst xs)) (hd : DvA cm D0 xs ds) (h2 : D0 b = some (.lst ys)) (he : DvA cm D0 ys es) : Yl cm (Itz K a b) D0 (zipD ds es) :=
  (walk_zip (K := K) (a := a) (b := b) (xs := xs) (ys := ys) (zipD_len hd he)).mono (fun H ⟨A, S, D, F, wd, s⟩ => ⟨.of (wd.sub _ _ (s _ _ h1)), .of (wd.sub _ _ (s _ _ h2))⟩) fun i H x H' _ _ y => yh_pair hd he y
theorem yl_zipT {K : PySem.W.Frag} {a b : Addr} {xs ys : List V} (h1 : D0 a = some (.tup xs)) (hd : DvA cm D0 xs ds) (h2 : D0 b = some (.tup ys)) (he : DvA cm D0 ys es) : Yl cm (RZ.ItzT K a b) D0 (zipD ds es) :=
  (walk_zipT2 (K := K) (a := a) (b := b) (xs := xs) (ys := ys) (zipD_len hd he)).mono (fun H ⟨A, S, D, F, wd, s⟩ => ⟨.of (wd.sub _ _ (s _ _ h1)), .of (wd.sub _ _ (s _ _ h2))⟩) fun i H x H' _ _ y => yh_pair hd he y
end
section
variable {X : Cx} {cm : CM} {W : WX} {e e' : Expr} {fs : Exs} {p pos tpos : Pos} {elts : List Expr} {kk : Nat}
theorem gi_zip (hm : X.mg "zip" = none) (ha : GA X cm W [e, e'] fs) (hg : Gl X "zip" := by rfl) (hs : starEach [e, e'] X.env = (false, eval e X.env) :: starEach [e'] X.env := by rfl) (hpl : (backTo pos (starEach [e'] X.env)).any (·.1) = false := by rfl) : GI X cm W (.Tuple elts kk tpos) (.Call (.Name "zip" p) [e, e'] [] pos) (iArgs zip2 fs) :=
  pi_imp (RZ.pi_zipA hg hm ha (hs := hs) (hpl := hpl)) fun σ H R ⟨p, ok, h⟩ => ⟨p, ok, (fin.bind h).imp (fun x S1 D1 H1 w s k vs r1 => by
    unfold zip2 at k
    split at k
    · obtain ⟨v, u, rfl, r2, r3⟩ := vrs2 r1
      cases r2 with
      | @lst a xs _ h1 h2 =>
        cases r3 with
        | @lst b ys _ h3 h4 => exact ⟨a, b, xs, ys, rfl, .inl ⟨.of (w.sub _ _ h1), .of (w.sub _ _ h3), k D1 H1 w (.refl _) _ (yl_zip h1 h2 h3 h4)⟩⟩
    · obtain ⟨v, u, rfl, r2, r3⟩ := vrs2 r1
      cases r2 with
      | @tup a xs _ h1 h2 =>
        cases r3 with
        | @tup b ys _ h3 h4 => exact ⟨a, b, xs, ys, rfl, .inr ⟨.of (w.sub _ _ h1), .of (w.sub _ _ h3), k D1 H1 w (.refl _) _ (yl_zipT h1 h2 h3 h4)⟩⟩
    · exact absurd k id) fun _ _ _ _ _ _ z => z⟩
end
end Sm

set_option maxHeartbeats 4000000
namespace Lf
open PySem PySem.Spec PyProof.Rows L2

/-! ## a tuple's slice by steps -/
/-- where it begins, how many places -/
def stepP (n : Nat) (lo : Option Int) (c : Int) : Int × Nat := ((Builtin.Slice.sliceAdjust lo none c n).1, Builtin.Slice.slicePlaces (Builtin.Slice.sliceAdjust lo none c n).1 (Builtin.Slice.sliceAdjust lo none c n).2 c)
def stepL {α : Type} (xs : List α) (p : Int × Nat) (c : Int) : List α := (List.range p.2).filterMap fun (k : Nat) => xs[(p.1 + (k : Int) * c).toNat]?
theorem stepL_len {α : Type} (xs : List α) (p : Int × Nat) (c : Int) : (stepL xs p c).length ≤ p.2 := by
  refine Nat.le_trans (List.length_filterMap_le _ _) ?_
  rw [List.length_range]
  exact Nat.le_refl _
theorem vals_stepL {xs : List V} {us : List Value} (r : Vals xs us) (p : Int × Nat) (c : Int) : Vals (stepL xs p c) (stepL us p c) := by
  unfold stepL
  generalize List.range p.2 = ks
  induction ks with
  | nil => exact .nil
  | cons k ks ih =>
    rw [List.filterMap_cons, List.filterMap_cons]
    cases e : xs[(p.1 + (k : Int) * c).toNat]? with
    | none =>
      have e2 : us[(p.1 + (k : Int) * c).toNat]? = none := by
        rw [List.getElem?_eq_none_iff] at e ⊢
        rw [← r.length]
        exact e
      rw [e2]
      exact ih
    | some x =>
      obtain ⟨u, eu, ru⟩ := r.get e
      rw [eu]
      exact .cons ru ih
section
variable {X : Cx}
theorem applied_step {pr : Program} {w : World} {A : Around} {E : Value → Shared → Prop} {s : Shared} {sl : Addr} {vl vs : Value} {lo : Option Int} {c : Int} {n : Nat} {Q : Int × Int × Nat → Shared → Prop} (hs : s.heap.IsSliceOf sl vl .none vs) (pl : IsPart vl lo) (ps : IsPart vs (some c)) (hc0 : c ≠ 0)
    (h : Q ((stepP n lo c).1, c, (stepP n lo c).2) s) : wpAny (model pr w) A (Builtin.Slice.sliceApplied (.ref sl) (pure (n : Int))) Q E s := by
  obtain ⟨os, hos, hcs, hds⟩ := id hs
  unfold Builtin.Slice.sliceApplied Builtin.Slice.sliceFields
  refine wpAny_bind (wpAny_bind (wpAny_field hos hds (x := vl) rfl (wpAny_bind (wpAny_field hos hds (x := .none) rfl (wpAny_bind (wpAny_field hos hds (x := vs) rfl (wpAny_pure ?_)))))))
  refine wpAny_bind (HT.slicePart_ ps (show wpAny _ _ (if (c == 0) = true then _ else _) _ _ s from ?_))
  rw [if_neg (by simpa using hc0)]
  refine wpAny_bind (HT.slicePart_ pl (wpAny_bind (HT.slicePart_ .none (wpAny_bind (wpAny_pure ?_)))))
  exact wpAny_pure h
theorem getItem_step {pr : Program} {w : World} {A : Around} {E : Value → Shared → Prop} {s : Shared} {t sl : Addr} {items : Array Value} {vl vs : Value} {lo : Option Int} {c : Int} {Q : Value → Shared → Prop} (ht : IsTup s.heap t items) (hs : s.heap.IsSliceOf sl vl .none vs) (pl : IsPart vl lo) (ps : IsPart vs (some c)) (hc0 : c ≠ 0) (hc1 : c ≠ 1)
    (hn : (stepP items.size lo c).2 ≤ 1000) (h : Q (.ref s.heap.objs.size) { s with heap := s.heap.push { cls := .type "tuple", data := .seq (stepL items.toList (stepP items.size lo c) c).toArray } }) : wpAny (model pr w) A (getItem (.ref t) (.ref sl)) Q E s := by
  have hz : sizeOk (.seq (stepL items.toList (stepP items.size lo c) c).toArray) := by
    show (stepL items.toList (stepP items.size lo c) c).toArray.size ≤ sizeLine
    rw [List.size_toArray]
    exact Nat.le_of_lt (small1000 (Nat.le_trans (stepL_len _ _ _) hn))
  obtain ⟨os, hos, hcs, hds⟩ := id hs
  have hTs : s.TypeIs (.ref sl) "slice" := ⟨os, hos, hcs⟩
  unfold getItem
  try with_reducible refine wpAny_holding ?_
  first | refine wpAny_bind (wpAny_pure ?_) | skip
  refine wpAny_bind (wpAny_sequenceKey ht.typeIs (by decide) (wpAny_bind (wpAny_callSpecial?_slot (name := Str.ofString "__getitem__") ht.typeIs PyProof.Rows.slot_tuple_getitem (wpAny_call_entry PyProof.Rows.slot_tuple_getitem ht.typeIs PyProof.Rows.entry_tuple_getitem ?_ (PyProof.Rows.args_tuple_getitem _ _)))))
  show wpAny _ _ (Builtin.Tuple.tupleItemsOf (.ref t) >>= _) _ _ s
  refine wpAny_bind (PyProof.Rows.tupleItemsOf_ ht (wpAny_bind (wpAny_typeOf hTs ?_)))
  rw [if_pos (by decide)]
  refine wpAny_bind (applied_step hs pl ps hc0 ?_)
  have hno : ¬ (((stepP items.size lo c).1 == 0 && c == 1 && (stepP items.size lo c).2 == items.size) = true) := by
    intro q
    rw [Bool.and_eq_true, Bool.and_eq_true] at q
    exact hc1 (eq_of_beq q.1.2)
  show wpAny _ _ (if ((stepP items.size lo c).1 == 0 && c == 1 && (stepP items.size lo c).2 == items.size) = true then _ else _) _ _ s
  rw [if_neg hno]
  have ep : ((List.range (stepP items.size lo c).2).filterMap fun (k : Nat) => items[((stepP items.size lo c).1 + (k : Int) * c).toNat]?).toArray = (stepL items.toList (stepP items.size lo c) c).toArray := by
    unfold stepL
    congr 1
    refine congrArg (fun f => List.filterMap f _) ?_
    funext k
    exact Array.getElem?_toList.symm
  rw [ep]
  first
    | exact wpAny_bind (m := Builtin.Tuple.tupleExact _) (wpAny_newObj_type (wpAny_pure ⟨_, rfl, wpAny_pure h⟩) hz)
    | exact wpAny_bind (m := Builtin.Tuple.tupleExact _) (wpAny_newObj_type (wpAny_bind (wpAny_pure (wpAny_pure ⟨_, rfl, wpAny_pure h⟩))) hz)
    | exact wpAny_bind (wpAny_bind (m := Builtin.Tuple.tupleExact _) (wpAny_newObj_type (wpAny_pure (wpAny_pure ⟨_, rfl, wpAny_pure h⟩)) hz))
    | exact wpAny_bind (wpAny_bind (m := Builtin.Tuple.tupleExact _) (wpAny_newObj_type (wpAny_pure ⟨_, rfl, wpAny_pure h⟩) hz))

/-- x[::-1], of a list or a tuple -/
theorem stepP_rev (n : Nat) : stepP n none (-1) = ((n : Int) - 1, n) := by
  unfold stepP
  have h1 : (Builtin.Slice.sliceAdjust none none (-1) n) = ((n : Int) - 1, -1) := by
    unfold Builtin.Slice.sliceAdjust
    simp
  rw [h1]
  unfold Builtin.Slice.slicePlaces
  simp
  omega
theorem stepL_rev {α : Type} (xs : List α) : stepL xs (stepP xs.length none (-1)) (-1) = xs.reverse := by
  rw [stepP_rev]
  unfold stepL
  have h : (List.range xs.length).filterMap (fun (k : Nat) => xs[((xs.length : Int) - 1 + (k : Int) * -1).toNat]?) = (List.range xs.reverse.toArray.size).filterMap (xs.reverse.toArray[·]?) := by
    rw [List.size_toArray, List.length_reverse]
    have cong : ∀ (ks : List Nat) (f g : Nat → Option α), (∀ k ∈ ks, f k = g k) → ks.filterMap f = ks.filterMap g := fun ks f g h => by
      induction ks with
      | nil => rfl
      | cons k ks ih => rw [List.filterMap_cons, List.filterMap_cons, h k List.mem_cons_self, ih fun x hx => h x (List.mem_cons_of_mem _ hx)]
    refine cong _ _ _ fun k hk => ?_
    have hk := List.mem_range.mp hk
    rw [List.getElem?_toArray, List.getElem?_reverse hk]
    congr 1
    omega
  exact h.trans (PySem.W.krv_all _)
def tRevA (K : PySem.W.Frag) (te : TE) : TE := fun σ H Q => te σ H fun x H1 => ∃ a xs, x = .ref a ∧ ((SqL K H1 a xs ∧ ∀ p, H1 p = none → Q (.ref p) (upd H1 p (.lst xs.reverse))) ∨ (SqT K H1 a xs ∧ xs.length ≤ 1000 ∧ ∀ p, H1 p = none → Q (.ref p) (upd H1 p (.tup xs.reverse))))
theorem pe_revA {e : Expr} {te : TE} {k : Nat} {p1 p2 p3 pos : Pos} (he : PE X e te) : PE X (.Subscript e (.Slice none none (some (.UnaryOp .USub (.Constant (.int 1) k p1) p2)) p3) pos) (tRevA X.K te) := by
  refine ⟨fun pins s σ H Q I h => ?_⟩
  refine Subscript_ (thn (he.run pins s σ H _ I h) fun v s1 ⟨x, H1, I1, r1, q1⟩ => ?_)
  obtain ⟨a, xs, ex, hx⟩ := q1
  subst ex
  cases r1
  have hst : PO X (some (.UnaryOp .USub (.Constant (.int 1) k p1) p2)) (tPart (tUn (rU fun i => .int (-i)) (tC (.int 1)))) := po_some (pe_un un_neg pe_int)
  refine wpAny_Slice (thn (po_none.run pins s1 σ H1 (fun o H2 => o = none ∧ H2 = H1) I1 ⟨rfl, rfl⟩) fun vl s2 ⟨l, H2, I2, pl, el, e2⟩ => ?_)
  subst el e2
  refine thn (po_none.run pins s2 σ H2 (fun o H3 => o = none ∧ H3 = H2) I2 ⟨rfl, rfl⟩) fun vu s3 ⟨u, H3, I3, pu, eu, e3⟩ => ?_
  subst eu e3
  refine thn (hst.run pins s3 σ H3 (fun o H4 => o = some (-1) ∧ H4 = H3) I3 ⟨1, rfl, -1, rfl, rfl, rfl⟩) fun vs s4 ⟨o, H4, I4, ps, eo, e4⟩ => ?_
  subst eo e4
  have vn : vu = Value.none := by cases pu; rfl
  subst vn
  have I5 : L2.Inv X pins σ H4 { s4 with heap := s4.heap.push { cls := .type "slice", data := .fields #[vl, .none, vs] } } := I4.kept (t' := s4.toks) fun b ob q => Heap.get?_push_of_some _ q
  rcases hx with ⟨hx, q⟩ | ⟨hx, hn, q⟩
  · obtain ⟨its, r, ht, hz⟩ := I5.list hx
    have hlen := r.length
    show wpAny (model X.prog X.w) X.A (subscriptTail e (.Slice none none (some (.UnaryOp .USub (.Constant (.int 1) k p1) p2)) p3) (.ref a) (.ref s4.heap.objs.size)) (EP X pins σ Q) X.xe { s4 with heap := s4.heap.push { cls := .type "slice", data := .fields #[vl, .none, vs] } }
    refine tail_any (ops := [.ref a, .ref s4.heap.objs.size]) ht.isList.typeIs (PySem.slot_list_getitem.lookup) ?_ (by with_unfolding_all rfl)
    refine wpAny_getItem_list_slice ht.isList (Heap.IsSliceOf.new _ vl .none vs) pl pu ps (by decide) ?_ (by rw [List.size_toArray]; omega)
    rw [PySem.W.krv_pick]
    refine ⟨.ref _, _, I5.laid (t' := s4.toks) (o := .lst xs.reverse) (fun b ob q => Heap.get?_push_of_some _ q) (Nat.le_refl _) ?_, rfl, q _ (I5.hok.fresh (Nat.le_refl _))⟩
    exact ⟨by rw [List.length_reverse]; exact hz, _, 0, r.reverse, Heap.get?_push_size _ rfl⟩
  · obtain ⟨its, r, ht, hz⟩ := I5.tuple hx
    have hlen : its.toArray.size = xs.length := by rw [List.size_toArray]; exact r.length.symm
    have hlen' : its.length = xs.length := r.length.symm
    show wpAny (model X.prog X.w) X.A (subscriptTail e (.Slice none none (some (.UnaryOp .USub (.Constant (.int 1) k p1) p2)) p3) (.ref a) (.ref s4.heap.objs.size)) (EP X pins σ Q) X.xe { s4 with heap := s4.heap.push { cls := .type "slice", data := .fields #[vl, .none, vs] } }
    refine tail_any (ops := [.ref a, .ref s4.heap.objs.size]) ht.typeIs PyProof.Rows.slot_tuple_getitem.lookup (getItem_step ht (Heap.IsSliceOf.new _ vl .none vs) pl ps (by decide) (by decide) (by rw [hlen, stepP_rev]; exact hn) ?_) (by with_unfolding_all rfl)
    rw [hlen, show stepL its.toArray.toList (stepP xs.length none (-1)) (-1) = its.reverse by rw [← hlen']; exact stepL_rev its]
    refine ⟨.ref _, _, I5.laid (t' := s4.toks) (o := .tup xs.reverse) (fun b ob q => Heap.get?_push_of_some _ q) (Nat.le_refl _) ⟨by rw [List.length_reverse]; exact Nat.le_of_lt (small1000 hn), _, r.reverse, IsTup.new _ _⟩, rfl, q _ (I5.hok.fresh (Nat.le_refl _))⟩
end
end Lf
namespace Sm
open PySem PySem.Spec PyProof.Rows L2 Lf
section
variable {X : Cx} {cm : CM} {W : WX} {a b c e : Expr} {fa fb fc f : Ex} {pos : Pos}
/-! ## a, b, c = x, y, z -/
def sPar3 (i j l : Nat) (fa fb fc : Ex) : Sx := fun ρ S => sE (fa ρ S) ρ fun x S1 => sE (fb ρ S1) ρ fun y S2 => sE (fc ρ S2) ρ fun z S3 => if notO x && notO y && notO z then some (.nx, ((ρ.set i (some x)).set j (some y)).set l (some z), S3) else none
theorem gs_par3 {i j l : Nat} {x y z : Str} {px py pz pt : Pos} {kt k2 pt2} (hc : X.calm = true) (hN : X.N.Nodup) (hi : X.N[i]? = some x) (hj : X.N[j]? = some y) (hl : X.N[l]? = some z) (hij : i ≠ j) (hil : i ≠ l) (hjl : j ≠ l)
    (hx : X.env.scope.names.lookup x = some .local) (hy : X.env.scope.names.lookup y = some .local) (hz : X.env.scope.names.lookup z = some .local) (ha : GE X cm W a fa) (hb : GE X cm W b fb) (hcc : GE X cm W c fc)
    (hsa : starEach [a, b, c] X.env = (false, eval a X.env) :: starEach [b, c] X.env) (hsb : starEach [b, c] X.env = (false, eval b X.env) :: starEach [c] X.env) (hsc : starEach [c] X.env = (false, eval c X.env) :: starEach [] X.env)
    (hw : swappedStores [.Tuple [.Name x px, .Name y py, .Name z pz] kt pt] (.Tuple [a, b, c] k2 pt2) X.env = pure (some [x, y, z]))
    (hs : swapsWithSole [.Tuple [.Name x px, .Name y py, .Name z pz] kt pt] (.Tuple [a, b, c] k2 pt2) pos.line X.env = pure false := by rfl) :
    GS X cm W (.Assign [.Tuple [.Name x px, .Name y py, .Name z pz] kt pt] (.Tuple [a, b, c] k2 pt2) pos) (sPar3 i j l fa fb fc) :=
  ps_imp (ps_par3 hc hN hi hj hl hij hil hjl hx hy hz (pa_cons ha (pa_cons hb (pa_cons hcc pa_nil hsc) hsb) hsa) hw hs) fun D σ H ⟨p, ok, h⟩ => by
    refine ⟨p, ok, finE (W := W) (okQ := fun x S1 D1 H1 => ∀ v, VR cm p.A D1 p.Ow x v → tCons (tE cm W fb) (tCons (tE cm W fc) tNil) σ H1 fun vs H2 => ∃ v' w' u', v :: vs = [v', w', u'] ∧ D.nx (((σ.set i (some v')).set j (some w')).set l (some u')) H2) ok h (fun x S1 D1 H1 _ ok1 s k v r => ?_) fun e S1 D1 H1 z => z⟩
    refine ⟨⟨p.A, S1, D1, p.Ow, p.Fr, p.ρ⟩, ok1, finE (W := W) (okQ := fun y S2 D2 H2 => ∀ u, VR cm p.A D2 p.Ow y u → tCons (tE cm W fc) tNil σ H2 fun vs H3 => ∃ v' w' u', v :: u :: vs = [v', w', u'] ∧ D.nx (((σ.set i (some v')).set j (some w')).set l (some u')) H3) ok1 k (fun y S2 D2 H2 _ ok2 s2 k2 u r2 => ?_) fun e S1 D1 H1 z => z⟩
    refine ⟨⟨p.A, S2, D2, p.Ow, p.Fr, p.ρ⟩, ok2, finE (W := W) (okQ := fun z S3 D3 H3 => ∀ t, VR cm p.A D3 p.Ow z t → D.nx (((σ.set i (some v)).set j (some u)).set l (some t)) H3) ok2 k2 (fun z S3 D3 H3 _ ok3 s3 k3 t r3 => ?_) (fun e S1 D1 H1 z => z) |>.imp (fun z S3 D3 H3 w3 s3 k3 t r3 => ⟨v, u, t, rfl, k3 t r3⟩) fun _ _ _ _ _ _ z => z⟩
    split at k3
    · rename_i hn
      rw [Bool.and_eq_true, Bool.and_eq_true] at hn
      have n1 : isOwn (some (some x)) = false := notO_own hn.1.1
      have n2 : isOwn (some (some y)) = false := notO_own hn.1.2
      have n3 : isOwn (some (some z)) = false := notO_own hn.2
      exact k3 D3 p.Ow _ H3 ⟨ok3.wd, ((ok3.er.set ((r.mono s2).mono s3) n1).set (r2.mono s3) n2).set r3 n3⟩ (.refl _)
    · exact absurd k3 id
/-! ## x[::-1] -/
def rev2F : PyData → Option PyData
  | .list ds => some (.list ds.reverse)
  | .tuple ds => if ds.length ≤ 1000 then some (.tuple ds.reverse) else none
  | _ => none
theorem g_rev2 {k : Nat} {p1 p2 p3 : Pos} (he : GE X cm W e f) : GE X cm W (.Subscript e (.Slice none none (some (.UnaryOp .USub (.Constant (.int 1) k p1) p2)) p3) pos) (e1 (lift1 rev2F) f) :=
  pe_imp (pe_revA he) fun σ H Q ⟨p, ok, h⟩ => ⟨p, ok, (fin.bind h).imp (fun x S1 D1 H1 w s k v r => by
    obtain ⟨a, c, h1, h2, h3⟩ := lift1_inv k
    have hx := view_dw w h1 r
    unfold rev2F at h2
    split at h2
    · cases h2
      obtain ⟨q, xs, rfl, h4, h5⟩ := hx.lst w.sub
      refine ⟨q, xs, rfl, .inl ⟨.of h4, fun m nm => ?_⟩⟩
      obtain ⟨w', s'⟩ := w.new nm (.lst xs.reverse)
      exact h3 _ _ w' s' _ (.lst upd_same (h5.rev.mono s'))
    · split at h2
      · rename_i hn
        cases h2
        obtain ⟨q, xs, rfl, h4, h5⟩ := hx.tup
        refine ⟨q, xs, rfl, .inr ⟨.of (w.sub _ _ h4), by rw [h5.length]; exact hn, fun m nm => ?_⟩⟩
        obtain ⟨w', s'⟩ := w.new nm (.tup xs.reverse)
        exact h3 _ _ w' s' _ (.tup upd_same (h5.rev.mono s'))
      · cases h2
    · cases h2) fun _ _ _ _ _ _ z => z⟩
end
end Sm

set_option maxHeartbeats 4000000
namespace Sm
open PySem PySem.Spec PyProof.Rows L2 Lf

/-! ## dicts -/
def keyOf : PyData → Option Key
  | .int i => some (.inl i)
  | .str x => some (.inr x)
  | _ => none
theorem keyOf_kD (k : Key) : keyOf (kD k) = some k := by cases k <;> rfl
theorem keyOf_eq {d : PyData} {k : Key} (h : keyOf d = some k) : d = kD k := by
  cases d <;> cases h <;> rfl
theorem dv_key {cm : CM} {D : Hp} {v : V} {k : Key} (h : Dv cm D v (kD k)) : v = kV k := by
  cases k with
  | inl i => cases h; rfl
  | inr x => cases h; rfl
abbrev KD := List (Key × PyData)
def encK (l : KD) : List (PyData × PyData) := l.map fun p => (kD p.1, p.2)
def putD {κ : Type} [DecidableEq κ] (l : List (κ × PyData)) (k : κ) (d : PyData) : List (κ × PyData) := if (l.any fun p => decide (p.1 = k)) = true then l.map (fun p => if p.1 = k then (p.1, d) else p) else l ++ [(k, d)]
def keysD {κ : Type} (l : List (κ × PyData)) : List κ := l.map (·.1)
section
variable {cm : CM} {D : Hp} {κ : Type}
inductive DvQ (cm : CM) (H : Hp) {κ : Type} : List (κ × V) → List (κ × PyData) → Prop
  | nil : DvQ cm H [] []
  | cons {k : κ} {v : V} {r : List (κ × V)} {d : PyData} {l : List (κ × PyData)} : Dv cm H v d → DvQ cm H r l → DvQ cm H ((k, v) :: r) ((k, d) :: l)
theorem DvQ.mono {H' : Hp} (s : Same D H') : ∀ {kvs : List (κ × V)} {l : List (κ × PyData)}, DvQ cm D kvs l → DvQ cm H' kvs l
  | _, _, .nil => .nil
  | _, _, .cons h k => .cons (h.mono s) (k.mono s)
theorem DvQ.keys : ∀ {kvs : List (κ × V)} {l : List (κ × PyData)}, DvQ cm D kvs l → kvs.map (·.1) = keysD l
  | _, _, .nil => rfl
  | _, _, .cons _ k => congrArg (_ :: ·) k.keys
theorem DvQ.length {kvs : List (κ × V)} {l : List (κ × PyData)} (h : DvQ cm D kvs l) : kvs.length = l.length := by
  have := congrArg List.length h.keys
  rw [List.length_map] at this
  unfold keysD at this
  rw [List.length_map] at this
  exact this
theorem DvQ.dvk : ∀ {kvs : List (Key × V)} {l : KD}, DvQ cm D kvs l → DvK cm D kvs (encK l)
  | _, _, .nil => .nil
  | _, _, .cons h k => .cons h k.dvk
theorem kD_inj : ∀ {k k' : Key}, kD k = kD k' → k = k' := fun {k k'} h => by
  cases k <;> cases k' <;> cases h <;> rfl
theorem DvK.q : ∀ {l : KD} {kvs : List (Key × V)}, DvK cm D kvs (encK l) → DvQ cm D kvs l
  | [], _, h => by cases h; exact .nil
  | (k, d) :: l, kvs, h => by
    generalize e : encK ((k, d) :: l) = ps at h
    cases h with
    | nil => cases e
    | cons h1 h2 =>
      have e' : (kD k, d) :: encK l = _ := e
      injection e' with e1 e2
      injection e1 with e3 e4
      have := kD_inj e3
      subst this e4 e2
      exact .cons h1 (DvK.q h2)
theorem DvQ.any [DecidableEq κ] {k : κ} : ∀ {kvs : List (κ × V)} {l : List (κ × PyData)}, DvQ cm D kvs l → (kvs.any fun p => decide (p.1 = k)) = (l.any fun p => decide (p.1 = k))
  | _, _, .nil => rfl
  | _, _, .cons _ h => by
    rw [List.any_cons, List.any_cons, h.any]
theorem DvQ.set [DecidableEq κ] {k : κ} {v : V} {d : PyData} (hv : Dv cm D v d) : ∀ {kvs : List (κ × V)} {l : List (κ × PyData)}, DvQ cm D kvs l → DvQ cm D (kvs.map fun p => if p.1 = k then (p.1, v) else p) (l.map fun p => if p.1 = k then (p.1, d) else p)
  | _, _, .nil => .nil
  | _, _, .cons h1 h2 => by
    rw [List.map_cons, List.map_cons]
    dsimp only
    split
    · exact .cons hv (DvQ.set hv h2)
    · exact .cons h1 (DvQ.set hv h2)
theorem DvQ.snoc {k : κ} {v : V} {d : PyData} (hv : Dv cm D v d) : ∀ {kvs : List (κ × V)} {l : List (κ × PyData)}, DvQ cm D kvs l → DvQ cm D (kvs ++ [(k, v)]) (l ++ [(k, d)])
  | _, _, .nil => .cons hv .nil
  | _, _, .cons h1 h2 => .cons h1 (DvQ.snoc hv h2)
theorem DvQ.put [DecidableEq κ] {k : κ} {v : V} {d : PyData} {kvs : List (κ × V)} {l : List (κ × PyData)} (h : DvQ cm D kvs l) (hv : Dv cm D v d) : DvQ cm D (putK kvs k v) (putD l k d) := by
  unfold putK putD
  rw [h.any]
  split
  · exact h.set hv
  · exact h.snoc hv
theorem putD_len [DecidableEq κ] (l : List (κ × PyData)) (k : κ) (d : PyData) : (putD l k d).length ≤ l.length + 1 := by
  unfold putD
  split
  · rw [List.length_map]; omega
  · rw [List.length_append, List.length_singleton]; omega
theorem putD_nodup [DecidableEq κ] {l : List (κ × PyData)} (h : (keysD l).Nodup) (k : κ) (d : PyData) : (keysD (putD l k d)).Nodup := by
  unfold putD
  split
  · have e : keysD (l.map fun p => if p.1 = k then (p.1, d) else p) = keysD l := by
      unfold keysD
      rw [List.map_map]
      refine List.map_congr_left fun p _ => ?_
      show (if p.1 = k then (p.1, d) else p).1 = p.1
      split <;> rfl
    rw [e]
    exact h
  · rename_i hn
    unfold keysD at h ⊢
    rw [List.map_append, List.map_cons, List.map_nil]
    refine List.nodup_append.mpr ⟨h, by simp, fun a ha b hb e => hn ?_⟩
    rw [List.mem_singleton] at hb
    subst hb e
    obtain ⟨p, hp, e⟩ := List.mem_map.mp ha
    exact List.any_eq_true.mpr ⟨p, hp, decide_eq_true e⟩
end
/-! ## dict comprehensions -/
def dL (pt : Tg) (tt : Env → M Bool) (kx vx : Ex) (vs : List Nat) (ρ : Env) : List PyData → KD → M KD
  | [], acc => fun S => .ok acc S
  | d :: ds, acc => fun S => match asg pt d (wipeE ρ vs) with
    | none => .no
    | some ρ1 => match tt ρ1 S with
      | .ok true S1 => match kx ρ1 S1 with
        | .ok (.d kd) S2 => match keyOf kd with
          | none => .no
          | some k => match vx ρ1 S2 with
            | .ok (.d y) S3 => dL pt tt kx vx vs ρ ds (putD acc k y) S3
            | _ => .no
        | _ => .no
      | .ok false S1 => dL pt tt kx vx vs ρ ds acc S1
      | _ => .no
def limK (ds : List PyData) (r : R KD) : R Vl := match r with
  | .ok l S => if ds.length ≤ big then .ok (.d (.dict (encK l))) S else .no
  | _ => .no
def eDc (pt : Tg) (fi : Ix) (tt : Env → M Bool) (kx vx : Ex) (vs : List Nat) : Ex := fun ρ S => (fi ρ S).bind fun ds S1 => limK ds (dL pt tt kx vx vs ρ ds [] S1)
theorem limK_inv {cm : CM} {A : List Addr} {D : Hp} {F : List (Addr × HO)} {ds : List PyData} {r : R KD} {okP : Vl → Sto → Hp → Hp → Prop} {erP : Exn → Sto → Hp → Hp → Prop} (h : fin cm A F D (limK ds r) okP erP) : ∃ l S', r = .ok l S' ∧ ds.length ≤ big ∧ ∀ D' H', Wd cm A S' D' F H' → Same D D' → okP (.d (.dict (encK l))) S' D' H' := by
  unfold limK at h
  split at h
  · split at h
    · exact ⟨_, _, rfl, ‹_›, h⟩
    · exact absurd h id
  · exact absurd h id
section
variable {cm : CM} {pt : Tg} {tt : Env → M Bool} {kx vx : Ex} {vs : List Nat} {ρ : Env} {A : List Addr} {Ow Fr : List (Addr × HO)} {σ : L2.St} {L : Addr}
theorem dc_turn {d : PyData} {ds : List PyData} {S S' : Sto} {D D0 : Hp} {kvs : List (Key × V)} {l out : KD} {H' : Hp} {v : V} (er : Er cm A D0 Ow ρ σ) (s0 : Same D0 D) (w : Wd cm A S D (Ow ++ (L, .dK kvs) :: Fr) H') (hv : Dv cm D v d) (ha : DvQ cm D kvs l) (nd : (keysD l).Nodup)
    (hc : dL pt tt kx vx vs ρ (d :: ds) l S = .ok out S') (hb : l.length ≤ big) (hsl : ∀ i ∈ pt.slots, i ∈ vs) (nxt : Hp → Prop)
    (hn : ∀ S1 D1 H1 kvs1 l1, Wd cm A S1 D1 (Ow ++ (L, .dK kvs1) :: Fr) H1 → Same D D1 → DvQ cm D1 kvs1 l1 → (keysD l1).Nodup → l1.length ≤ l.length + 1 → dL pt tt kx vx vs ρ ds l1 S1 = .ok out S' → nxt H1) :
    tG cm pt v (wipe σ vs) H' fun σ2 H2 => wipe σ2 vs = wipe σ vs ∧ tT cm W0 tt σ2 H2 fun b H3 => if b = true then tE cm W0 kx σ2 H3 fun y H4 => tE cm W0 vx σ2 H4 fun z H5 => ∃ kvs k, y = kV k ∧ H5 L = some (.dK kvs) ∧ kvs.length < sizeLine ∧ nxt (upd H5 L (.dK (putK kvs k z))) else nxt H3 := by
  unfold dL at hc
  cases e1 : asg pt d (wipeE ρ vs) with
  | none => rw [e1] at hc; cases hc
  | some ρ1 =>
    rw [e1] at hc
    refine ⟨⟨A, S, D, Ow, (L, .dK kvs) :: Fr, wipeE ρ vs⟩, d, ρ1, ⟨w, (er.mono s0).wipe vs⟩, hv, e1, fun σ2 er2 b2 => ⟨b2.wipe hsl, ⟨A, S, D, Ow, (L, .dK kvs) :: Fr, ρ1⟩, ⟨w, er2⟩, ?_⟩⟩
    dsimp only at hc ⊢
    cases e2 : tt ρ1 S with
    | no => rw [e2] at hc; cases hc
    | er e S1 => rw [e2] at hc; cases hc
    | ok b S1 =>
      rw [e2] at hc
      intro D1 H1 w1 s1
      cases b with
      | false =>
        rw [if_neg Bool.false_ne_true]
        exact hn S1 D1 H1 kvs l w1 s1 (ha.mono s1) nd (by omega) hc
      | true =>
        rw [if_pos rfl]
        refine ⟨⟨A, S1, D1, Ow, (L, .dK kvs) :: Fr, ρ1⟩, ⟨w1, er2.mono s1⟩, ?_⟩
        dsimp only at hc ⊢
        cases e3 : kx ρ1 S1 with
        | no => rw [e3] at hc; cases hc
        | er e S2 => rw [e3] at hc; cases hc
        | ok x S2 =>
          rw [e3] at hc
          cases x with
          | c n => cases hc
          | o zs => cases hc
          | m t ps => cases hc
          | d kd =>
            dsimp only at hc
            cases e4 : keyOf kd with
            | none => rw [e4] at hc; cases hc
            | some k =>
              rw [e4] at hc
              have hkd := keyOf_eq e4
              subst hkd
              intro D2 H2 w2 s2 kv hk
              refine ⟨⟨A, S2, D2, Ow, (L, .dK kvs) :: Fr, ρ1⟩, ⟨w2, (er2.mono s1).mono s2⟩, ?_⟩
              dsimp only at hc ⊢
              cases e5 : vx ρ1 S2 with
              | no => rw [e5] at hc; cases hc
              | er e S3 => rw [e5] at hc; cases hc
              | ok x S3 =>
                rw [e5] at hc
                cases x with
                | c n => cases hc
                | o zs => cases hc
                | m t ps => cases hc
                | d y =>
                  intro D3 H3 w3 s3 yv hy
                  have hl : kvs.length = l.length := ha.length
                  refine ⟨kvs, k, dv_key hk, w3.at_.1, by rw [hl]; exact big_le hb, hn S3 D3 _ (putK kvs k yv) (putD l k y) (w3.up _) (s1.trans (s2.trans s3)) ((ha.mono (s1.trans (s2.trans s3))).put hy) (putD_nodup nd k y) (putD_len l k y) hc⟩
end
section
variable {X : Cx} {cm : CM} {W : WX} {kx vx tg iter : Expr} {ifs : List Expr} {scope : Scope} {own : List (Str × Nat)} {pos : Pos} {pt : Tg} {fi : Ix} {tt : Env → M Bool} {fk fv : Ex}
theorem dc_it0 {J : It} {n : Nat} {G : Hp → Prop} {Y : Nat → Hp → V → Hp → Prop} (w : Walk J n G Y) {g : TG} {tt : TT} {tk tv : TE} {vs : List Nat} {σ : L2.St} {H0 : Hp} {D : Addr} {Qd : Hp → Prop} (Pv : Nat → Hp → Prop) (h0 : Pv 0 H0) (hG : ∀ i H, i ≤ n → Pv i H → G H)
    (hs : ∀ i x H H', i < n → Pv i H → Y i H x H' → g x (wipe σ vs) H' fun σ2 H2 => wipe σ2 vs = wipe σ vs ∧ tt σ2 H2 fun b H3 =>
      if b = true then tk σ2 H3 fun y H4 => tv σ2 H4 fun z H5 => ∃ kvs k, y = kV k ∧ H5 D = some (.dK kvs) ∧ kvs.length < sizeLine ∧ Pv (i + 1) (upd H5 D (.dK (putK kvs k z))) else Pv (i + 1) H3) (hd : ∀ H, Pv n H → Qd H) :
    ∃ W1 : Nat → Nat → Hp → Prop, (∃ m, W1 0 m H0) ∧ ∀ i m H, W1 i m H →
      (J.stop i H ∧ Qd H) ∨ (J.go i H ∧ ∃ Nx : Hp → Prop, (∀ H', Nx H' → ∃ m', m' < m ∧ W1 (i + 1) m' H') ∧ ∀ x H', J.yld i H x H' → g x (wipe σ vs) H' fun σ2 H2 => wipe σ2 vs = wipe σ vs ∧ tt σ2 H2 fun b H3 =>
        if b = true then tk σ2 H3 fun y H4 => tv σ2 H4 fun z H5 => ∃ kvs k, y = kV k ∧ H5 D = some (.dK kvs) ∧ kvs.length < sizeLine ∧ Nx (upd H5 D (.dK (putK kvs k z))) else Nx H3) := by
  refine ⟨fun i m H => m = n - i ∧ i ≤ n ∧ Pv i H, ⟨n, by simp, Nat.zero_le _, h0⟩, ?_⟩
  rintro i m H ⟨rfl, hi, p⟩
  have q := hG i H hi p
  by_cases hlt : i < n
  · refine .inr ⟨w.goes i H hlt q, Pv (i + 1), fun H' p' => ⟨n - (i + 1), by omega, rfl, hlt, p'⟩, fun x H' y => hs i x H H' hlt p (w.yields i H x H' hlt q y)⟩
  · have e : i = n := by omega
    subst e
    exact .inl ⟨w.stops H q, hd H p⟩
theorem dc_red {vs : List Nat} {σ : L2.St} {H : Hp} {Q : VK} (hsl : ∀ i ∈ pt.slots, i ∈ vs) (h : tE cm W (eDc pt fi tt fk fv vs) σ H Q) : tDc (tI cm W fi) (tG cm pt) (tT cm W0 tt) (tE cm W0 fk) (tE cm W0 fv) vs σ H Q := by
  obtain ⟨p, ok, h⟩ := h
  exact ⟨p, ok, (fin.bind h).imp (fun ds S1 D1 H1 w1 s1 k J yl L nL => by
    obtain ⟨out, S', e, hl, k2⟩ := limK_inv k
    refine dc_it0 yl (fun i H => ∃ S D kvs l, Wd cm p.A S D (p.Ow ++ (L, .dK kvs) :: p.Fr) H ∧ Same D1 D ∧ DvQ cm D kvs l ∧ (keysD l).Nodup ∧ l.length ≤ i ∧ dL pt tt fk fv vs p.ρ (ds.drop i) l S = .ok out S') ⟨S1, D1, [], [], w1.newM nL _, .refl _, .nil, List.nodup_nil, Nat.le_refl _, e⟩
      (fun i H _ ⟨S, D, kvs, l, w, s, _⟩ => ⟨_, _, _, _, w, s⟩) (fun i x H H' hi ⟨S, D, kvs, l, w, s, ha, nd, hz, hc⟩ y => ?_) (fun H ⟨S, D, kvs, l, w, s, ha, nd, hz, hc⟩ => ?_)
    · obtain ⟨D2, d, e2, w2, s2, hv⟩ := y _ _ _ _ w s
      rw [List.drop_eq_getElem_cons hi, show ds[i] = d from (List.getElem_eq_iff hi).mpr e2] at hc
      exact dc_turn (ok.er.mono s1) (s.trans s2) w2 hv (ha.mono s2) nd hc (by omega) hsl _ (fun S3 D3 H3 kvs3 l3 w3 s3 ha3 nd3 hl3 hc3 => ⟨S3, D3, kvs3, l3, w3, s.trans (s2.trans s3), ha3, nd3, by omega, hc3⟩)
    · rw [List.drop_length] at hc
      unfold dL at hc
      cases hc
      obtain ⟨w', s'⟩ := w.toD
      exact k2 _ _ w' (s.trans s') _ (.dK (.inl upd_same) (by rw [ha.keys]; exact nd) (ha.mono s').dvk)) fun _ _ _ _ _ _ z => z⟩
theorem g_dc (hc : X.calm = true) (hN : X.N.Nodup) (hi : GI X cm W tg iter fi) (ok : BlkOk X.N X.env.scope scope own)
    (hg : ∀ (s : Shared) (H : Hp) (C : Addr) (cl : List (Str × Addr)) (fp : List Addr), GG (X.blk s H scope (compEnvC scope cl C X.env) fp) cm tg pt) (ht : ∀ (s : Shared) (H : Hp) (C : Addr) (cl : List (Str × Addr)) (fp : List Addr), GTs (X.blk s H scope (compEnvC scope cl C X.env) fp) cm W0 ifs tt)
    (hk : ∀ (s : Shared) (H : Hp) (C : Addr) (cl : List (Str × Addr)) (fp : List Addr), GE (X.blk s H scope (compEnvC scope cl C X.env) fp) cm W0 kx fk)
    (he : ∀ (s : Shared) (H : Hp) (C : Addr) (cl : List (Str × Addr)) (fp : List Addr), GE (X.blk s H scope (compEnvC scope cl C X.env) fp) cm W0 vx fv) (hsl : ∀ i ∈ pt.slots, i ∈ own.map (·.2) := by decide) (hs : ∀ x, foldedSetIterable iter X.env x = pure x := by intro _; rfl) :
    GE X cm W (.DictComp kx vx [⟨tg, iter, ifs, 0⟩] scope pos) (eDc pt fi tt fk fv (own.map (·.2))) :=
  pe_imp (pe_dc hc hN hi ok hg ht hk he hs) fun σ H Q h => dc_red hsl h
end
end Sm

set_option maxHeartbeats 4000000
namespace Lf
open PySem PySem.Spec PyProof.Rows L2
def rIxD : R2 := fun x y H Q => ∃ a v, x = .ref a ∧ DGet H a y (some v) ∧ Q v H
theorem ix_dict {X : Cx} (hu : X.A.units + 1 < cLine) : IxR X rIxD := by
  intro value slice pins s σ H x y v u Q I rx ry h hs
  obtain ⟨a, z, ex, g, q⟩ := h
  subst ex
  obtain rfl : v = Value.ref a := rx
  have hT := dict_typeIs I g
  unfold subscriptTail
  refine wpAny_bind ?_
  rw [getitemInPython_of_ne hT.not_modules]
  refine wpAny_bind (wpAny_specialOf hT PySem.F.slot_dict_getitem.lookup ?_)
  have fin : wpAny (model X.prog X.w) X.A (subscripted slice false (.ref a) u) (fun r s₃ => wpAny (model X.prog X.w) X.A (letTemporaryGo value (.ref a) r >>= fun _ => pure r) (EP X pins σ Q) X.xe s₃) X.xe s := by
    rw [hs]
    exact wpAny_operating (d_getItem hu I g ry fun w' s3 I3 rw' => wpAny_bind (wpAny_letTemporaryGo (wpAny_pure ⟨z, H, I3, rw', q⟩)))
  first
    | exact wpAny_pure (wpAny_bind fin)
    | exact wpAny_bind (wpAny_pure (wpAny_bind fin))
    | exact wpAny_bind fin
end Lf
namespace Sm
open PySem PySem.Spec PyProof.Rows L2 Lf
def valD {κ : Type} [DecidableEq κ] (l : List (κ × PyData)) (k : κ) : Option PyData := (l.find? fun p => decide (p.1 = k)).map (·.2)
def decK : List (PyData × PyData) → Option KD
  | [] => some []
  | (k, d) :: r => match keyOf k, decK r with
    | some k, some l => some ((k, d) :: l)
    | _, _ => none
theorem decK_enc : ∀ l : KD, decK (encK l) = some l
  | [] => rfl
  | (k, d) :: l => by
    show (match keyOf (kD k), decK (encK l) with | some k, some l => some ((k, d) :: l) | _, _ => none) = _
    rw [keyOf_kD, decK_enc l]
theorem enc_decK : ∀ {ps : List (PyData × PyData)} {l : KD}, decK ps = some l → ps = encK l
  | [], l, h => by cases h; rfl
  | (k, d) :: r, l, h => by
    unfold decK at h
    cases e1 : keyOf k with
    | none => rw [e1] at h; cases h
    | some k' =>
      cases e2 : decK r with
      | none => rw [e1, e2] at h; cases h
      | some l' =>
        rw [e1, e2] at h
        cases h
        rw [enc_decK e2, keyOf_eq e1]
        rfl
/-! keys that are tuples -/
abbrev TD := List (List Key × PyData)
def tD (k : List Key) : PyData := .tuple (k.map kD)
def encT (l : TD) : List (PyData × PyData) := l.map fun p => (tD p.1, p.2)
def keysOf : List PyData → Option (List Key)
  | [] => some []
  | d :: r => match keyOf d, keysOf r with
    | some k, some ks => some (k :: ks)
    | _, _ => none
def keyTOf : PyData → Option (List Key)
  | .tuple ds => keysOf ds
  | _ => none
theorem keysOf_map : ∀ ks : List Key, keysOf (ks.map kD) = some ks
  | [] => rfl
  | k :: ks => by
    show (match keyOf (kD k), keysOf (ks.map kD) with | some k, some ks => some (k :: ks) | _, _ => none) = _
    rw [keyOf_kD, keysOf_map ks]
theorem keysOf_eq : ∀ {ds : List PyData} {ks : List Key}, keysOf ds = some ks → ds = ks.map kD
  | [], _, h => by cases h; rfl
  | d :: r, ks, h => by
    unfold keysOf at h
    cases e1 : keyOf d with
    | none => rw [e1] at h; cases h
    | some k =>
      cases e2 : keysOf r with
      | none => rw [e1, e2] at h; cases h
      | some ks' =>
        rw [e1, e2] at h
        cases h
        rw [keysOf_eq e2, keyOf_eq e1]
        rfl
theorem keyTOf_tD (k : List Key) : keyTOf (tD k) = some k := keysOf_map k
theorem keyTOf_eq {d : PyData} {k : List Key} (h : keyTOf d = some k) : d = tD k := by
  cases d with
  | tuple ds => exact congrArg PyData.tuple (keysOf_eq h)
  | _ => cases h
def decT : List (PyData × PyData) → Option TD
  | [] => some []
  | (k, d) :: r => match keyTOf k, decT r with
    | some k, some l => some ((k, d) :: l)
    | _, _ => none
theorem decT_enc : ∀ l : TD, decT (encT l) = some l
  | [] => rfl
  | (k, d) :: l => by
    show (match keyTOf (tD k), decT (encT l) with | some k, some l => some ((k, d) :: l) | _, _ => none) = _
    rw [keyTOf_tD, decT_enc l]
theorem enc_decT : ∀ {ps : List (PyData × PyData)} {l : TD}, decT ps = some l → ps = encT l
  | [], l, h => by cases h; rfl
  | (k, d) :: r, l, h => by
    unfold decT at h
    cases e1 : keyTOf k with
    | none => rw [e1] at h; cases h
    | some k' =>
      cases e2 : decT r with
      | none => rw [e1, e2] at h; cases h
      | some l' =>
        rw [e1, e2] at h
        cases h
        rw [enc_decT e2, keyTOf_eq e1]
        rfl
section
variable {cm : CM} {D : Hp}
theorem DvQ.dvt : ∀ {kvs : List (List Key × V)} {l : TD}, DvQ cm D kvs l → DvT cm D kvs (encT l)
  | _, _, .nil => .nil
  | _, _, .cons h k => .cons h k.dvt
theorem kDs_inj : ∀ {k k' : List Key}, k.map kD = k'.map kD → k = k'
  | [], [], _ => rfl
  | [], _ :: _, h => by cases h
  | _ :: _, [], h => by cases h
  | a :: k, b :: k', h => by
    rw [List.map_cons, List.map_cons] at h
    injection h with h1 h2
    rw [kD_inj h1, kDs_inj h2]
theorem DvT.q : ∀ {l : TD} {kvs : List (List Key × V)}, DvT cm D kvs (encT l) → DvQ cm D kvs l
  | [], _, h => by cases h; exact .nil
  | (k, d) :: l, kvs, h => by
    generalize e : encT ((k, d) :: l) = ps at h
    cases h with
    | nil => cases e
    | cons h1 h2 =>
      have e' : (tD k, d) :: encT l = _ := e
      injection e' with e1 e2
      injection e1 with e3 e4
      injection e3 with e5
      have := kDs_inj e5
      subst this e4 e2
      exact .cons h1 (DvT.q h2)
theorem dv_keyT {v : V} {k : List Key} (h : Dv cm D v (tD k)) : ∃ b, v = .ref b ∧ D b = some (.tup (k.map kV)) := by
  cases h with
  | @tup a xs ds h1 h2 =>
    refine ⟨a, rfl, ?_⟩
    rw [h1]
    congr 2
    clear h1
    induction k generalizing xs with
    | nil => cases h2; rfl
    | cons k ks ih =>
      cases h2 with
      | cons h3 h4 => rw [List.map_cons, dv_key h3, ih h4]
end
/-- d[k] of a dict -/
def lookP (ps : List (PyData × PyData)) (k : PyData) : Option PyData := match keyOf k with
  | some k => match decK ps with
    | some l => valD l k
    | none => none
  | none => match keyTOf k, decT ps with
    | some k, some l => valD l k
    | _, _ => none
def ixD : PyData → PyData → Option PyData
  | .dict ps, k => lookP ps k
  | _, _ => none
section
variable {X : Cx} {cm : CM} {W : WX} {κ : Type} [DecidableEq κ]
theorem DvQ.val {D : Hp} {k : κ} : ∀ {kvs : List (κ × V)} {l : List (κ × PyData)}, DvQ cm D kvs l → ∀ o, valD l k = o → match o with
    | some d => ∃ v, valV kvs k = some v ∧ Dv cm D v d
    | none => valV kvs k = none
  | _, _, .nil, _, h => by subst h; rfl
  | _, _, .cons (k := k') (v := v') (r := r) (d := d') (l := l') h1 h2, o, h => by
    by_cases e : k' = k
    · have : valD ((k', d') :: l') k = some d' := by simp [valD, e]
      rw [this] at h
      subst h
      exact ⟨v', valV_pos e, h1⟩
    · have : valD ((k', d') :: l') k = valD l' k := by simp [valD, e]
      rw [this] at h
      have := DvQ.val h2 o h
      rw [valV_neg e]
      exact this
theorem valD_ne {l : List (κ × PyData)} {k : κ} {d : PyData} (h : valD l k = some d) : l ≠ [] := fun z => by subst z; cases h
/-- data that is a dict of scalar keys is one in the heap -/
theorem Dv.dq {D : Hp} {v : V} {l : KD} (ne : l ≠ []) (h : Dv cm D v (.dict (encK l))) : ∃ a kvs, v = .ref a ∧ Rd D a (.dK kvs) ∧ (kvs.map (·.1)).Nodup ∧ DvQ cm D kvs l := by
  cases l with
  | nil => exact absurd rfl ne
  | cons p l =>
  generalize e : encK (p :: l) = ps at h
  cases h with
  | dK h1 h2 h3 =>
    rw [← e] at h3
    exact ⟨_, _, rfl, h1, h2, DvK.q h3⟩
  | dT h1 h2 h3 =>
    exfalso
    cases h3 with
    | nil => cases e
    | cons _ _ =>
      have e' : (kD p.1, p.2) :: encK l = _ := e
      injection e' with e1 e2
      injection e1 with e3 e4
      obtain ⟨k, d⟩ := p
      cases k <;> cases e3
  | ins h1 h2 h3 =>
    exfalso
    have e' : (kD p.1, p.2) :: encK l = _ := e
    injection e' with e1 e2
    injection e1 with e3 e4
    obtain ⟨k, d⟩ := p
    cases k <;> cases e3
theorem Dv.dqT {D : Hp} {v : V} {l : TD} (ne : l ≠ []) (h : Dv cm D v (.dict (encT l))) : ∃ a kvs, v = .ref a ∧ D a = some (.dT kvs) ∧ (kvs.map (·.1)).Nodup ∧ DvQ cm D kvs l := by
  cases l with
  | nil => exact absurd rfl ne
  | cons p l =>
  generalize e : encT (p :: l) = ps at h
  cases h with
  | dT h1 h2 h3 =>
    rw [← e] at h3
    exact ⟨_, _, rfl, h1, h2, DvT.q h3⟩
  | dK h1 h2 h3 =>
    exfalso
    cases h3 with
    | nil => cases e
    | @cons k _ _ _ _ _ _ =>
      have e' : (tD p.1, p.2) :: encT l = _ := e
      injection e' with e1 e2
      injection e1 with e3 e4
      cases k <;> cases e3
  | ins h1 h2 h3 =>
    exfalso
    have e' : (tD p.1, p.2) :: encT l = _ := e
    injection e' with e1 e2
    injection e1 with e3 e4
    cases e3
theorem i_dict {k : Nat} (hr : Room k X.A) (hu : X.A.units + 1 < cLine) : Ix2 X cm ixD := ⟨_, ix_dict hu, fun A S D F H x y a b c Q w hx hy e q => by
  unfold ixD at e
  split at e
  · rename_i ps _
    have hx' := hx.inH w.sub
    unfold lookP at e
    split at e
    · rename_i k ek
      split at e
      · rename_i l el
        have hk := keyOf_eq ek
        subst hk
        obtain rfl := enc_decK el
        have hy' : Dv cm D y (kD k) := by cases k <;> cases hy with | d h => exact h
        have ne := valD_ne e
        cases hx with
        | d hd =>
          obtain ⟨a, kvs, rfl, h1, _, h2⟩ := hd.dq ne
          obtain ⟨v, h3, h4⟩ := h2.val _ e
          have g : DGet H a (kV k) (valV kvs k) := .inl ⟨kvs, k, h1.imp (fun z => w.sub _ _ z) (fun ⟨o, z⟩ => ⟨o, w.sub _ _ z⟩), rfl, rfl⟩
          rw [h3] at g
          exact ⟨a, v, rfl, by rw [dv_key hy']; exact g, q D H _ w (.refl D) h4⟩
        | @m a t o _ hm hh =>
          cases t with
          | false =>
            obtain ⟨kvs, rfl, h1, h2⟩ := hh
            obtain ⟨v, h3, h4⟩ := (DvK.q h2).val _ e
            have g : DGet H a (kV k) (valV kvs k) := .inl ⟨kvs, k, .inl hm, rfl, rfl⟩
            rw [h3] at g
            exact ⟨a, v, rfl, by rw [dv_key hy']; exact g, q D H _ w (.refl D) h4⟩
          | true =>
            obtain ⟨kvs, rfl, h1, h2⟩ := hh
            exfalso
            cases l with
            | nil => exact ne rfl
            | cons p l =>
              generalize e : encK (p :: l) = ps at h2
              cases h2 with
              | nil => cases e
              | cons _ _ =>
                have e' : (kD p.1, p.2) :: encK l = _ := e
                injection e' with e1 e2
                injection e1 with e3 e4
                obtain ⟨k, d⟩ := p
                cases k <;> cases e3
      · cases e
    · split at e
      · rename_i k l ek el
        have hk := keyTOf_eq ek
        subst hk
        obtain rfl := enc_decT el
        have hy' : Dv cm D y (tD k) := by cases hy with | d h => exact h
        obtain ⟨b, rfl, hb⟩ := dv_keyT hy'
        have ne := valD_ne e
        cases hx with
        | d hd =>
          obtain ⟨a, kvs, rfl, h1, _, h2⟩ := hd.dqT ne
          obtain ⟨v, h3, h4⟩ := h2.val _ e
          have g : DGet H a (.ref b) (valV kvs k) := .inr ⟨kvs, k, b, .inl (w.sub _ _ h1), rfl, w.sub _ _ hb, rfl⟩
          rw [h3] at g
          exact ⟨a, v, rfl, g, q D H _ w (.refl D) h4⟩
        | @m a t o _ hm hh =>
          cases t with
          | true =>
            obtain ⟨kvs, rfl, h1, h2⟩ := hh
            obtain ⟨v, h3, h4⟩ := (DvT.q h2).val _ e
            have g : DGet H a (.ref b) (valV kvs k) := .inr ⟨kvs, k, b, .inl hm, rfl, w.sub _ _ hb, rfl⟩
            rw [h3] at g
            exact ⟨a, v, rfl, g, q D H _ w (.refl D) h4⟩
          | false =>
            obtain ⟨kvs, rfl, h1, h2⟩ := hh
            exfalso
            cases l with
            | nil => exact ne rfl
            | cons p l =>
              generalize e : encT (p :: l) = ps at h2
              cases h2 with
              | nil => cases e
              | @cons k _ _ _ _ _ _ =>
                have e' : (tD p.1, p.2) :: encT l = _ := e
                injection e' with e1 e2
                injection e1 with e3 e4
                cases k <;> cases e3
      · cases e
  · cases e⟩
end
end Sm

set_option maxHeartbeats 4000000
namespace Lf
open PySem PySem.Spec PyProof.Rows L2

/-! ## enumerate of a tuple -/
section
open AutoSeq1 (wpAny_loadPart')
abbrev itT (a : Addr) : Obj := { cls := .type "tuple_iterator", data := .fields #[.ref a, .int 0 0] }
abbrev enT (n : Nat) : Obj := { cls := .type "enumerate", data := .fields #[.none, .bool false, .ref n, rawInt 0, .none, .none] }
set_option maxHeartbeats 4000000 in
theorem enumT_new (a : Addr) (items : Array Value) (n : Nat) (dc : Option Addr) (sl : Array (Option Value)) :
    Meets (Builtin.«enumerate.__new__» ⟨[.type "enumerate", .ref a], []⟩) (fun _ R s => s.heap.get? a = some { cls := .type "tuple", dict := dc, data := .seq items n, slots := sl } ∧
      R (.ok (.ret (.ref (s.heap.push (itT a)).objs.size))) { s with heap := (s.heap.push (itT a)).push (enT s.heap.objs.size) }) := .of_wp fun pr w A R s h => by
  obtain ⟨hp, g, d, tk, os⟩ := s
  obtain ⟨ha, h⟩ := h
  have hsub := sub_enumerate
  have hT : Heap.IsTuple (Shared.heap ⟨hp, g, d, tk, os⟩) a items := ⟨_, ha, rfl, n, rfl⟩
  wp_walk using wpAny_loadPart' ha
  refine wpAny_stack_any fun st => wpAny_pure ?_
  split
  · rename_i c _ _ _ _ _
    cases (c == Value.type "enumerate") <;> (wp_walk using wpAny_loadPart' ha, wpAny_pyIter_tuple hT; exact ⟨_, rfl, h⟩)
  · wp_walk using wpAny_loadPart' ha, wpAny_pyIter_tuple hT
    exact ⟨_, rfl, h⟩
theorem call_enumT {pr : Program} {w : World} {A : Around} {E : Value → Shared → Prop} {s : Shared} {a : Addr} {items : Array Value} {Q : Value → Shared → Prop} (hT : s.heap.IsTuple a items)
    (h : ∀ h', IsEnum h' (s.heap.objs.size + 1) s.heap.objs.size 0 .none → h'.IsTupleIter s.heap.objs.size a 0 → (∀ b o, s.heap.get? b = some o → h'.get? b = some o) → Q (.ref (s.heap.objs.size + 1)) { s with heap := h' }) :
    wpAny (model pr w) A (call (.type "enumerate") [.ref a]) Q E s := by
  obtain ⟨⟨c, dc, dt, sl⟩, ha, hc, n, hd⟩ := hT
  have hc : c = .type "tuple" := hc
  have hd : dt = .seq items n := hd
  subst hc; subst hd
  have hz : (s.heap.push (itT a)).objs.size = s.heap.objs.size + 1 := Heap.size_push ..
  refine callType_new F.called_enumerate (by decide) (F.typeCall_enumerate_1 _) (F.newCall_enumerate_1 _) (fun obj => F.args_object_init_2 obj _) F.entry_enumerate_new (enumT_new a items n dc sl) ⟨ha, (show _ ∧ _ from ?_)⟩
  have he : ((s.heap.push (itT a)).push (enT s.heap.objs.size)).get? (s.heap.push (itT a)).objs.size = some (enT s.heap.objs.size) := Heap.get?_push_size _ rfl
  rw [hz] at he ⊢
  exact ⟨⟨_, he, rfl⟩, h _ he ⟨_, Heap.get?_push_of_some _ (Heap.get?_push_size _ rfl), rfl, rfl⟩ fun b o x => Heap.get?_push_of_some _ (Heap.get?_push_of_some _ x)⟩
end
/-- the tuple at a, each item with its place in a new pair -/
def ItEt (K : PySem.W.Frag) (a : Addr) : It :=
  ⟨fun i H => ∃ (xs : List V) (x : V), SqT K H a xs ∧ xs[i]? = some x,
    fun i H v H' => ∃ T x, v = .ref T ∧ H T = none ∧ H' = upd H T (.tup [.int (i : Nat), x]) ∧ ∀ xs, SqT K H a xs → xs[i]? = some x,
    fun i H => ∃ xs : List V, SqT K H a xs ∧ xs.length = i⟩
theorem turn_enumT {P : Program} {w : World} {K : PySem.W.Frag} {elts : List Expr} {kk : Nat} {tpos : Pos} (a e it : Addr) :
    Turn P w K (.Tuple elts kk tpos) (ItEt K a) [e, it] e (fun i h => (∃ old, IsEnum h e it ((i : Nat) : Int) old) ∧ h.IsTupleIter it a i ∧ e ≠ it ∧ e ≠ a ∧ a ≠ it) where
  mem := by simp
  obj := fun i h st b hb => by
    obtain ⟨⟨old, he⟩, ⟨o, ho, hc, hd⟩, _⟩ := st
    have e' : b = e ∨ b = it := by simpa using hb
    rcases e' with z | z
    · exact z ▸ ⟨_, he, fun v q => nomatch q⟩
    · exact z ▸ ⟨o, ho, fun v q => by rw [hd] at q; cases q⟩
  keep := fun i h h' st k => ⟨st.1.imp fun old he => k e (by simp) _ he, st.2.1.at fun o q => k it (by simp) o q, st.2.2⟩
  item := by
    intro X hP hw hK hc i pins s σ H E I hf st hg
    subst hP hw hK
    obtain ⟨⟨old, he⟩, hit, hne, hea, hai⟩ := st
    obtain ⟨xs, x, hq, hx⟩ := hg
    obtain ⟨its, rv, p, hz⟩ := I.tuple hq
    obtain ⟨u, hu, ru⟩ := rv.get hx
    have hT : s.heap.IsTuple a its.toArray := by
      obtain ⟨o, e1, c, m, q⟩ := p
      exact ⟨o, e1, c, m, q⟩
    have hel : e < s.heap.objs.size := Heap.lt_size he
    have hil : it < s.heap.objs.size := let ⟨_, q, _⟩ := hit; Heap.lt_size q
    have hlt : i < its.toArray.size := by
      have : i < its.length := (List.getElem?_eq_some_iff.mp hu).1
      simpa using this
    refine wpAny_pyNext_enum_itemD (Draws.tuple (A := X.A.in1) (I.ok.hd hc) it a hai its.toArray) he ⟨hit, hT⟩ hlt hne (by simp [hne, hea]) fun y h' tk hy ho hs' hT3 hsz hk => ?_
    have hyu : y = u := by
      have hy' : its[i]? = some y := by simpa using hy
      rw [hu] at hy'
      exact (Option.some.inj hy').symm
    subst hyu
    refine ⟨_, rfl, wpAny_letOwnedTupleGo_enum (s := { s with heap := h', toks := tk + 1 }) ho fun h'' he' sb => ?_⟩
    have hT2 : h''.get? s.heap.objs.size = some { cls := .type "tuple", data := .seq #[.int i tk, y] } := (sb.2 _ (Nat.ne_of_gt hel)).trans hT3
    have I1 : L2.Inv X pins σ (upd H s.heap.objs.size (.tup [.int (i : Nat), x])) { s with heap := h'', toks := tk + 1 } :=
      I.turnedNew (t' := tk + 1) (ch := [e, it]) (fun b ob hb q => (sb.2 b (fun z => hb (by simp [z]))).trans (hk b ob (fun z => hb (by simp [z])) (fun z => hb (by simp [z])) q)) hf (Nat.le_refl _)
        ⟨(by show 2 ≤ sizeLine; decide), [.int i tk, y], .cons ⟨_, rfl⟩ (.cons ru .nil), ⟨_, hT2, rfl, _, rfl⟩⟩
    refine ⟨.ref s.heap.objs.size, _, I1, rfl, ⟨_, x, rfl, I.hok.fresh (Nat.le_refl _), rfl, fun ys hy => by rw [I.tuple_inj hy hq]; exact hx⟩, ⟨⟨y, ?_⟩, hs'.1.at fun o q => (sb.2 it (Ne.symm hne)).trans q, hne, hea, hai⟩, fun b hb => ?_⟩
    · rw [show ((i + 1 : Nat) : Int) = (i : Int) + 1 by omega]
      exact he'
    · have e' : b = e ∨ b = it := by simpa using hb
      have hb' : b < s.heap.objs.size := by rcases e' with z | z <;> rw [z] <;> assumption
      exact (upd_ne (Nat.ne_of_lt hb')).trans (hf b hb).1
  done := by
    intro X hP hw hK hc i pins s σ H E I hf st hg
    subst hP hw hK
    obtain ⟨⟨old, he⟩, hit, hne, hea, hai⟩ := st
    obtain ⟨xs, hq, hx⟩ := hg
    obtain ⟨its, rv, p, hz⟩ := I.tuple hq
    obtain ⟨f0, f1, f2, f3, f4, f5⟩ := hf it (by simp)
    have hT : s.heap.IsTuple a its.toArray := by
      obtain ⟨o, e1, c, m, q⟩ := p
      exact ⟨o, e1, c, m, q⟩
    have hi : i = its.toArray.size := by
      have := rv.length
      simp
      omega
    exact wpAny_pyNext_enum_endD (Draws.tuple (A := X.A.in1) (I.ok.hd hc) it a hai its.toArray) he ⟨hi ▸ hit, hT⟩ fun h' eb => ⟨rfl, I.turned (t' := s.toks) (fun b o hb q => eb b o hb q) f0 f1 f3 f4 f5⟩
  self := fun A i s Q E st h => let ⟨⟨_, he⟩, _⟩ := st; wpAny_pyIter_enum he h
theorem walk_enumT {K : PySem.W.Frag} {a : Addr} {xs : List V} : Walk (ItEt K a) xs.length (fun H => SqT K H a xs) (YPair (fun i => some (.int (i : Nat))) (fun i => xs[i]?)) := by
  refine ⟨fun i _ hi q => ⟨xs, xs[i], q, by simp [hi]⟩, fun _ q => ⟨xs, q, rfl⟩, fun i H v H' _ q y => ?_⟩
  obtain ⟨T, x, h1, h2, h3, h4⟩ := y
  exact ⟨T, .int (i : Nat), x, h1, h2, h3, rfl, h4 xs q⟩
def iEnumT (K : PySem.W.Frag) (ta : TA) : TI := fun σ H R => ta σ H fun vs H1 => ∃ a xs, vs = [.ref a] ∧ SqT K H1 a xs ∧ R (ItEt K a) H1
theorem pi_enumT {X : Cx} {e : Expr} {ta : TA} {p pos tpos : Pos} {elts : List Expr} {kk : Nat} (hg : Gl X "enumerate") (hm : X.mg "enumerate" = none) (ha : PA X [e] ta) (hs : starEach [e] X.env = [(false, eval e X.env)] := by rfl) :
    PI X (.Tuple elts kk tpos) (.Call (.Name "enumerate" p) [e] [] pos) (iEnumT X.K ta) := ⟨fun pins s σ H R I h => by
  refine Call_ (ld_blt I hg hm boot_enumerate (PyProof.Rows.callWith_type1 (thn (ha.run pos pins s σ H _ I h) fun us s1 ⟨vs, H1, I1, r1, a, xs, ex, hq, q⟩ => ?_) hs rfl))
  subst ex
  obtain ⟨u, rfl, r⟩ := vals1 r1
  cases r
  obtain ⟨its, rv, pl, hz⟩ := I1.tuple hq
  have hT : s1.heap.IsTuple a its.toArray := by
    obtain ⟨o, e1, c, m, q⟩ := pl
    exact ⟨o, e1, c, m, q⟩
  have hal : a < s1.heap.objs.size := let ⟨_, e1, _⟩ := hT; Heap.lt_size e1
  refine call_enumT hT fun h' he hit hk => wpAny_pyIter_enum he ?_
  have I2 : L2.Inv X pins σ H1 { s1 with heap := h' } := I1.kept (t' := s1.toks) hk
  refine ⟨s1.heap.objs.size + 1, [s1.heap.objs.size + 1, s1.heap.objs.size], _, _, H1, rfl, I2, turn_enumT a (s1.heap.objs.size + 1) s1.heap.objs.size, ⟨⟨.none, he⟩, hit, Nat.succ_ne_self _, Nat.ne_of_gt (Nat.lt_succ_of_lt hal), Nat.ne_of_lt hal⟩, fun b hb => ?_, q⟩
  have e' : b = s1.heap.objs.size + 1 ∨ b = s1.heap.objs.size := by simpa using hb
  have hle : s1.heap.objs.size ≤ b := e'.elim (fun z => z ▸ Nat.le_succ _) fun z => z ▸ Nat.le_refl _
  exact I1.fpOk hle (I1.hok.fresh hle)⟩
end Lf

set_option maxHeartbeats 4000000
namespace Lf
open PySem PySem.Spec PyProof.Rows L2
theorem walk_enumT2 {K : PySem.W.Frag} {a : Addr} {xs : List V} : Walk (ItEt K a) xs.length (fun H => SqT K H a xs) (YPair (fun i => some (.int (i : Nat))) (fun i => xs[i]?)) := by
  refine ⟨fun i _ hi q => ⟨xs, xs[i], q, by simp [hi]⟩, fun _ q => ⟨xs, q, rfl⟩, fun i H v H' _ q y => ?_⟩
  obtain ⟨T, x, h1, h2, h3, h4⟩ := y
  exact ⟨T, .int (i : Nat), x, h1, h2, h3, rfl, h4 xs q⟩
/-- enumerate of a list or a tuple -/
def iEnumA (K : PySem.W.Frag) (ta : TA) : TI := fun σ H R => ta σ H fun vs H1 => ∃ a xs, vs = [.ref a] ∧ ((SqL K H1 a xs ∧ R (Ite K a) H1) ∨ (SqT K H1 a xs ∧ R (ItEt K a) H1))
theorem pi_enumA {X : Cx} {e : Expr} {ta : TA} {p pos tpos : Pos} {elts : List Expr} {kk : Nat} (hg : Gl X "enumerate") (hm : X.mg "enumerate" = none) (ha : PA X [e] ta) (hs : starEach [e] X.env = [(false, eval e X.env)] := by rfl) :
    PI X (.Tuple elts kk tpos) (.Call (.Name "enumerate" p) [e] [] pos) (iEnumA X.K ta) := ⟨fun pins s σ H R I h => by
  refine Call_ (ld_blt I hg hm boot_enumerate (PyProof.Rows.callWith_type1 (thn (ha.run pos pins s σ H _ I h) fun us s1 ⟨vs, H1, I1, r1, a, xs, ex, hh⟩ => ?_) hs rfl))
  subst ex
  obtain ⟨u, rfl, r⟩ := vals1 r1
  cases r
  rcases hh with ⟨hq, q⟩ | ⟨hq, q⟩
  · obtain ⟨its, rv, p', hz⟩ := I1.list hq
    refine call_enumerate_list p'.isList fun h' he hit hsz hk => wpAny_pyIter_enum he ?_
    have I2 : L2.Inv X pins σ H1 { s1 with heap := h' } := I1.kept (t' := s1.toks) hk
    refine ⟨s1.heap.objs.size + 1, [s1.heap.objs.size + 1, s1.heap.objs.size], _, _, H1, rfl, I2, turn_enum a (s1.heap.objs.size + 1) s1.heap.objs.size, ⟨⟨.none, he⟩, hit, Nat.succ_ne_self _⟩, fun b hb => ?_, q⟩
    have e' : b = s1.heap.objs.size + 1 ∨ b = s1.heap.objs.size := by simpa using hb
    have hle : s1.heap.objs.size ≤ b := e'.elim (fun z => z ▸ Nat.le_succ _) fun z => z ▸ Nat.le_refl _
    exact I1.fpOk hle (I1.hok.fresh hle)
  · obtain ⟨its, rv, pl, hz⟩ := I1.tuple hq
    have hT : s1.heap.IsTuple a its.toArray := by
      obtain ⟨o, e1, c, m, q⟩ := pl
      exact ⟨o, e1, c, m, q⟩
    have hal : a < s1.heap.objs.size := let ⟨_, e1, _⟩ := hT; Heap.lt_size e1
    refine call_enumT hT fun h' he hit hk => wpAny_pyIter_enum he ?_
    have I2 : L2.Inv X pins σ H1 { s1 with heap := h' } := I1.kept (t' := s1.toks) hk
    refine ⟨s1.heap.objs.size + 1, [s1.heap.objs.size + 1, s1.heap.objs.size], _, _, H1, rfl, I2, turn_enumT a (s1.heap.objs.size + 1) s1.heap.objs.size, ⟨⟨.none, he⟩, hit, Nat.succ_ne_self _, Nat.ne_of_gt (Nat.lt_succ_of_lt hal), Nat.ne_of_lt hal⟩, fun b hb => ?_, q⟩
    have e' : b = s1.heap.objs.size + 1 ∨ b = s1.heap.objs.size := by simpa using hb
    have hle : s1.heap.objs.size ≤ b := e'.elim (fun z => z ▸ Nat.le_succ _) fun z => z ▸ Nat.le_refl _
    exact I1.fpOk hle (I1.hok.fresh hle)⟩
end Lf
namespace Sm
open PySem PySem.Spec PyProof.Rows L2 Lf

/-! ## enumerate -/
def enumD (ds : List PyData) : List PyData := (List.range ds.length).zipWith (fun (i : Nat) d => PyData.tuple [.int (i : Nat), d]) ds
def enum1 : List Vl → M (List PyData)
  | [.d (.list ds)] => fun S => .ok (enumD ds) S
  | [.d (.tuple ds)] => fun S => .ok (enumD ds) S
  | _ => fun _ => .no
theorem enumD_len (ds : List PyData) : (enumD ds).length = ds.length := by
  unfold enumD
  rw [List.length_zipWith, List.length_range, Nat.min_self]
section
variable {cm : CM} {D0 : Hp} {ds : List PyData}
theorem yh_enum {xs : List V} (hd : DvA cm D0 xs ds) {i : Nat} {H : Hp} {x : V} {H' : Hp} (hi : i < ds.length) (y : YPair (fun i => some (.int (i : Nat))) (fun i => xs[i]?) i H x H') : YH cm D0 (enumD ds) i H x H' := by
  intro A S D F wd s
  obtain ⟨T, x1, x2, rfl, nT, rfl, e1, e2⟩ := y
  cases e1
  obtain ⟨d2, g2, k2⟩ := hd.get e2
  obtain ⟨w', s'⟩ := wd.new nT (.tup [.int (i : Nat), x2])
  refine ⟨_, .tuple [.int (i : Nat), d2], ?_, w', s', .tup upd_same (.cons (.int _) (.cons (k2.mono (s.trans s')) .nil))⟩
  unfold enumD
  rw [List.getElem?_zipWith, List.getElem?_range hi, g2]
theorem yl_enum {K : PySem.W.Frag} {a : Addr} {xs : List V} (h1 : D0 a = some (.lst xs)) (hd : DvA cm D0 xs ds) : Yl cm (Ite K a) D0 (enumD ds) := by
  have w := walk_enum (K := K) (a := a) (xs := xs)
  unfold Yl
  rw [enumD_len, ← hd.length]
  exact w.mono (fun H ⟨A, S, D, F, wd, s⟩ => .of (wd.sub _ _ (s _ _ h1))) fun i H x H' hi _ y => yh_enum hd (by rw [← hd.length]; exact hi) y
theorem yl_enumT {K : PySem.W.Frag} {a : Addr} {xs : List V} (h1 : D0 a = some (.tup xs)) (hd : DvA cm D0 xs ds) : Yl cm (ItEt K a) D0 (enumD ds) := by
  have w := walk_enumT2 (K := K) (a := a) (xs := xs)
  unfold Yl
  rw [enumD_len, ← hd.length]
  exact w.mono (fun H ⟨A, S, D, F, wd, s⟩ => .of (wd.sub _ _ (s _ _ h1))) fun i H x H' hi _ y => yh_enum hd (by rw [← hd.length]; exact hi) y
end
section
variable {X : Cx} {cm : CM} {W : WX} {e : Expr} {fs : Exs} {p pos tpos : Pos} {elts : List Expr} {kk : Nat}
theorem gi_enum (hm : X.mg "enumerate" = none) (ha : GA X cm W [e] fs) (hg : Gl X "enumerate" := by rfl) (hs : starEach [e] X.env = [(false, eval e X.env)] := by rfl) : GI X cm W (.Tuple elts kk tpos) (.Call (.Name "enumerate" p) [e] [] pos) (iArgs enum1 fs) :=
  pi_imp (pi_enumA hg hm ha (hs := hs)) fun σ H R ⟨p, ok, h⟩ => ⟨p, ok, (fin.bind h).imp (fun x S1 D1 H1 w s k vs r1 => by
    unfold enum1 at k
    split at k
    · obtain ⟨v, rfl, r2⟩ := vrs1 r1
      cases r2 with
      | @lst a xs _ h1 h2 => exact ⟨a, xs, rfl, .inl ⟨.of (w.sub _ _ h1), k D1 H1 w (.refl _) _ (yl_enum h1 h2)⟩⟩
    · obtain ⟨v, rfl, r2⟩ := vrs1 r1
      cases r2 with
      | @tup a xs _ h1 h2 => exact ⟨a, xs, rfl, .inr ⟨.of (w.sub _ _ h1), k D1 H1 w (.refl _) _ (yl_enumT h1 h2)⟩⟩
    · exact absurd k id) fun _ _ _ _ _ _ z => z⟩
/-! ## any index -/
theorem Ix2.or2 {f g : PyData → PyData → Option PyData} (h : Ix2 X cm f) (h' : Ix2 X cm g) : Ix2 X cm (orF f g) := by
  obtain ⟨r, h1, h2⟩ := h
  obtain ⟨r', h3, h4⟩ := h'
  refine ⟨_, h1.or h3, fun A S D F H x y a b c Q w hx hy e q => ?_⟩
  unfold orF at e
  split at e
  · rename_i c' e'
    cases e
    exact .inl (h2 _ _ _ _ _ _ _ _ _ _ _ w hx hy e' q)
  · exact .inr (h4 _ _ _ _ _ _ _ _ _ _ _ w hx hy e q)
def ixA : PyData → PyData → Option PyData := orF ixLT ixD
theorem i_any {k : Nat} (hr : Room k X.A) : Ix2 X cm ixA := i_seq.or2 (i_dict hr (by have := hr.un; omega))
end
end Sm

set_option maxHeartbeats 4000000
namespace Lf
open PySem PySem.Spec PyProof.Rows L2

/-! ## {k: v for a in x if .. for b in y if ..} -/
abbrev dcE (kx vx t0 i0 t1 i1 : Expr) (c0 c1 : List Expr) (sc : Scope) (ps : Pos) : Expr := .DictComp kx vx [⟨t0, i0, c0, 0⟩, ⟨t1, i1, c1, 0⟩] sc ps
abbrev tstE (cs : List Expr) (en : Env) : Sem Bool := forIn cs true fun c r => if r = true then do let ok ← isTrue c en (eval c en); pure (ForInStep.yield ok) else pure (ForInStep.yield r)
theorem dc2_turn0 (kx vx t0 i0 t1 i1 : Expr) (c0 c1 : List Expr) (sc : Scope) (ps : Pos) (it acc : Value) (en : Env) :
    compTurn (dcE kx vx t0 i0 t1 i1 c0 c1 sc ps) 0 it acc en = (do
      standAt i0.pos
      match ← pyNext it with
      | none => pure (.done .next)
      | some y =>
        letOwnedTupleGo t0 it y; assign t0 en y
        let mut go := true
        for c in c0 do
          if go then go ← isTrue c en (eval c en)
        if go then
          let z ← eval i1 en
          standAt i1.pos
          let z ← foldedSetIterable i1 en z
          let _ ← runOwn (.compStart (dcE kx vx t0 i0 t1 i1 c0 c1 sc ps) 1 (← holding [z] (pyIter z)) acc en) en
        again (.compLoop (dcE kx vx t0 i0 t1 i1 c0 c1 sc ps) 0 it acc en)) := by rfl
theorem dc2_turn1 (kx vx t0 i0 t1 i1 : Expr) (c0 c1 : List Expr) (sc : Scope) (ps : Pos) (it : Value) (D : Addr) (en : Env) :
    compTurn (dcE kx vx t0 i0 t1 i1 c0 c1 sc ps) 1 it (.ref D) en = (do
      standAt i1.pos
      match ← pyNext it with
      | none => pure (.done .next)
      | some y =>
        letOwnedTupleGo t1 it y; assign t1 en y
        let mut go := true
        for c in c1 do
          if go then go ← isTrue c en (eval c en)
        if go then
          (do
            let a ← eval kx en
            let b ← holding [a] (eval vx en)
            standAt { kx.pos with endLine := vx.pos.endLine, endCol := vx.pos.endCol }; holding [a, b] (dictSet D a b))
        again (.compLoop (dcE kx vx t0 i0 t1 i1 c0 c1 sc ps) 1 it (.ref D) en)) := by rfl
section
variable {pr : Program} {w : World} {A : Around} {R : Result → Shared → Prop} {s : Shared} {kx vx t0 i0 t1 i1 : Expr} {c0 c1 : List Expr} {sc : Scope} {ps : Pos} {it acc : Value} {D : Addr} {en : Env}
abbrev nbE (pr : Program) (w : World) (A : Around) (R : Result → Shared → Prop) (en : Env) : Value → Shared → Prop := notedBy (model pr w) A en fun x s' => R (.error x) s'
theorem dc2_loop0 (hs : ∀ z, foldedSetIterable i1 en z = pure z) (J : Nat → Shared → Prop)
    (tn : ∀ n s, J n s → wpAny (model pr w) A (pyNext it) (fun r s1 => match r with
      | none => R (.ok .next) s1
      | some y => wpAny (model pr w) A (letOwnedTupleGo t0 it y) (fun _ s2 => wpAny (model pr w) A (assign t0 en y) (fun _ s3 => wpAny (model pr w) A (tstE c0 en) (fun b s4 =>
            if b = true then wpAny (model pr w) A (eval i1 en) (fun z s5 => wpAny (model pr w) A (pyIter z) (fun it1 s6 => codeAny (model pr w) A (.compStart (dcE kx vx t0 i0 t1 i1 c0 c1 sc ps) 1 it1 acc en) (fun r s' => match r with
                | .ok _ => ∃ m, m < n ∧ J m s'
                | .error _ => False) s6) (nbE pr w A R en) s5) (nbE pr w A R en) s4
            else ∃ m, m < n ∧ J m s4) (nbE pr w A R en) s3) (nbE pr w A R en) s2) (nbE pr w A R en) s1) (nbE pr w A R en) s)
    (n : Nat) (h : J n s) : codeAny (model pr w) A (.compLoop (dcE kx vx t0 i0 t1 i1 c0 c1 sc ps) 0 it acc en) R s := by
  refine codeAny_loop rfl J (fun n s hJ => ?_) n h
  show wpAny _ A ((compTurn (dcE kx vx t0 i0 t1 i1 c0 c1 sc ps) 0 it acc en).onRaise (fun x => do noteFrame x en; theTreesLotGoes x)) _ _ s
  rw [dc2_turn0]
  refine wpAny_noted (wpAny_bind (wpAny_standAt (wpAny_bind (wpAny_mono (tn n s hJ) (fun r s1 h1 => ?_) fun _ _ q => q))))
  cases r with
  | none => exact wpAny_pure h1
  | some y =>
    refine wpAny_bind (wpAny_mono h1 (fun _ s2 h2 => wpAny_bind (wpAny_mono h2 (fun _ s3 h3 => wpAny_bind (wpAny_mono h3 (fun b s4 h4 => ?_) fun _ _ q => q)) fun _ _ q => q)) fun _ _ q => q)
    cases b with
    | false => exact wpAny_pure ⟨rfl, h4⟩
    | true =>
      refine wpAny_bind (wpAny_mono h4 (fun z s5 h5 => wpAny_bind (wpAny_standAt (wpAny_bind (wpAny_of_eq (hs z) (wpAny_bind (wpAny_holding (wpAny_mono h5 (fun it1 s6 h6 => wpAny_bind (wpAny_runOwn ?_)) fun _ _ q => q))))))) fun _ _ q => q)
      rw [Around.mark_none]
      refine codeAny_mono h6 fun r s' hr => ?_
      cases r with
      | error e => exact hr.elim
      | ok f => first | exact wpAny_pure ⟨rfl, hr⟩ | exact wpAny_bind (wpAny_pure (wpAny_pure ⟨rfl, hr⟩))
theorem dc2_loop1 (J : Nat → Shared → Prop)
    (tn : ∀ n s, J n s → wpAny (model pr w) A (pyNext it) (fun r s1 => match r with
      | none => R (.ok .next) s1
      | some y => wpAny (model pr w) A (letOwnedTupleGo t1 it y) (fun _ s2 => wpAny (model pr w) A (assign t1 en y) (fun _ s3 => wpAny (model pr w) A (tstE c1 en) (fun b s4 =>
            if b = true then wpAny (model pr w) A (eval kx en) (fun a s5 => wpAny (model pr w) A (eval vx en) (fun z s6 => wpAny (model pr w) A (dictSet D a z) (fun _ s7 => ∃ m, m < n ∧ J m s7) (nbE pr w A R en) s6) (nbE pr w A R en) s5) (nbE pr w A R en) s4
            else ∃ m, m < n ∧ J m s4) (nbE pr w A R en) s3) (nbE pr w A R en) s2) (nbE pr w A R en) s1) (nbE pr w A R en) s)
    (n : Nat) (h : J n s) : codeAny (model pr w) A (.compLoop (dcE kx vx t0 i0 t1 i1 c0 c1 sc ps) 1 it (.ref D) en) R s := by
  refine codeAny_loop rfl J (fun n s hJ => ?_) n h
  show wpAny _ A ((compTurn (dcE kx vx t0 i0 t1 i1 c0 c1 sc ps) 1 it (.ref D) en).onRaise (fun x => do noteFrame x en; theTreesLotGoes x)) _ _ s
  rw [dc2_turn1]
  refine wpAny_noted (wpAny_bind (wpAny_standAt (wpAny_bind (wpAny_mono (tn n s hJ) (fun r s1 h1 => ?_) fun _ _ q => q))))
  cases r with
  | none => exact wpAny_pure h1
  | some y =>
    refine wpAny_bind (wpAny_mono h1 (fun _ s2 h2 => wpAny_bind (wpAny_mono h2 (fun _ s3 h3 => wpAny_bind (wpAny_mono h3 (fun b s4 h4 => ?_) fun _ _ q => q)) fun _ _ q => q)) fun _ _ q => q)
    cases b with
    | false => exact wpAny_pure ⟨rfl, h4⟩
    | true =>
      exact wpAny_bind (wpAny_bind (wpAny_mono h4 (fun a s5 h5 => wpAny_bind (wpAny_holding (wpAny_mono h5 (fun z s6 h6 => wpAny_bind (wpAny_standAt (wpAny_holding (wpAny_mono h6 (fun _ s7 h7 => wpAny_pure ⟨rfl, h7⟩) fun _ _ q => q)))) fun _ _ q => q))) fun _ _ q => q))
theorem dc2_start1 (h0 : codeAny (model pr w) A (.compLoop (dcE kx vx t0 i0 t1 i1 c0 c1 sc ps) 1 it acc en) R s)
    (h : wpAny (model pr w) A (pyIter it) (fun j s' => codeAny (model pr w) A (.compLoop (dcE kx vx t0 i0 t1 i1 c0 c1 sc ps) 1 j acc en) R s') (nbE pr w A R en) s) :
    codeAny (model pr w) A (.compStart (dcE kx vx t0 i0 t1 i1 c0 c1 sc ps) 1 it acc en) R s := by
  refine codeAny_of_tree (show wpAny _ _ ((compStart (dcE kx vx t0 i0 t1 i1 c0 c1 sc ps) 1 it acc en).onRaise (fun x => do noteFrame x en; standAt theWindowsPlace)) _ _ s from wpAny_notedAt ?_)
  unfold compStart
  refine (show wpAny _ _ (ask >>= _) _ _ s from wpAny_bind (wpAny_askSetting (wpAny_ite ?_)))
  split
  · first | exact wpAny_bind (wpAny_pure (wpAny_pure ⟨rfl, h0⟩)) | exact wpAny_pure ⟨rfl, h0⟩
  · first
      | exact wpAny_bind (wpAny_rule (wpAny_bind (wpAny_standAt (wpAny_bind (wpAny_mono h (fun _ _ q => wpAny_pure ⟨rfl, q⟩) fun _ _ q => q)))))
      | (refine wpAny_bind (wpAny_rule ?_); show wpAny _ _ (standAt i1.pos >>= _) _ _ s; exact wpAny_bind (wpAny_standAt (wpAny_bind (wpAny_mono h (fun _ _ q => wpAny_pure ⟨rfl, q⟩) fun _ _ q => q))))
end
section
variable {X : Cx}
abbrev BlkAll (X : Cx) (sc : Scope) (P : Cx → Prop) : Prop := ∀ (s : Shared) (H : Hp) (C : Addr) (cl : List (Str × Addr)) (fp : List Addr), P (X.blk s H sc (compEnvC sc cl C X.env) fp)
/-- the reading: behind the first target the second source's own walk, from which Nx is reached; vs the block's names, ws those of the second target -/
def tDc2 (wi : TI) (g : TG) (tt : TT) (wj : TI) (gj : TG) (tj : TT) (tk tv : TE) (vs ws : List Nat) : TE := fun σ H Q => wi σ H fun J H1 => ∀ D, H1 D = none → ∃ W : Nat → Nat → Hp → Prop, (∃ m, W 0 m (upd H1 D (.dK []))) ∧ ∀ i m H, W i m H →
  (J.stop i H ∧ Q (.ref D) H) ∨ (J.go i H ∧ ∃ Nx : Hp → Prop, (∀ H', Nx H' → ∃ m', m' < m ∧ W (i + 1) m' H') ∧ ∀ x H', J.yld i H x H' → g x (wipe σ vs) H' fun σ2 H2 => wipe σ2 vs = wipe σ vs ∧ tt σ2 H2 fun b H3 =>
    if b = true then wj σ2 H3 fun L H4 => ∃ Y : Nat → Nat → Hp → Prop, (∃ m, Y 0 m H4) ∧ ∀ j k H, Y j k H →
      (L.stop j H ∧ Nx H) ∨ (L.go j H ∧ ∃ Ny : Hp → Prop, (∀ H', Ny H' → ∃ k', k' < k ∧ Y (j + 1) k' H') ∧ ∀ x H', L.yld j H x H' → gj x (wipe σ2 ws) H' fun σ3 H5 => wipe σ3 ws = wipe σ2 ws ∧ tj σ3 H5 fun b H6 =>
        if b = true then tk σ3 H6 fun y H7 => tv σ3 H7 fun z H8 => ∃ kvs q, y = kV q ∧ H8 D = some (.dK kvs) ∧ kvs.length < sizeLine ∧ Ny (upd H8 D (.dK (putK kvs q z))) else Ny H6)
    else Nx H3)
theorem dc2_core {pins : List (Addr × Obj)} {s : Shared} {σ : L2.St} {H : Hp} {Q : VK} {kx vx t0 i0 t1 i1 : Expr} {c0 c1 : List Expr} {sc : Scope} {own : List (Str × Nat)} {ws : List Nat} {ps ps' : Pos} {wi wj : TI} {g gj : TG} {tt tj : TT} {tk tv : TE} {use : Option (Value → Sem Unit)} {Qf : Value → Shared → Prop}
    (hc : X.calm = true) (hN : X.N.Nodup) (I : L2.Inv X pins σ H s) (hi : PI X t0 i0 wi) (ok : BlkOk X.N X.env.scope sc own) (hv : ∀ i ∈ ws, i ∈ own.map (·.2))
    (hg : BlkAll X sc fun Z => PG Z t0 g) (ht : BlkAll X sc fun Z => PTs Z c0 tt) (hk : BlkAll X sc fun Z => PE Z kx tk) (he : BlkAll X sc fun Z => PE Z vx tv)
    (hj : BlkAll X sc fun Z => PI Z t1 i1 wj) (hgj : BlkAll X sc fun Z => PG Z t1 gj) (htj : BlkAll X sc fun Z => PTs Z c1 tj)
    (hs : ∀ x, foldedSetIterable i0 X.env x = pure x) (hsj : ∀ en x, foldedSetIterable i1 en x = pure x) (h : tDc2 wi g tt wj gj tj tk tv (own.map (·.2)) ws σ H Q)
    (fin0 : ∀ D C s' m H', L2.Inv X pins σ H' s' → Q (.ref D) H' → s'.heap.Ns C m → FpOk X pins H' C → compPost (model X.prog X.w) X.A X.xe use Qf (.ref D) C (.ok .next) s') :
    wpAny (model X.prog X.w) X.A (comprehension (dcE kx vx t0 i0 t1 i1 c0 c1 sc ps) sc X.env ps' newDict false (eval i0 X.env) use) Qf X.xe s := by
  have free : ∀ y ∈ sc.names, y.2 = .free → ∃ c, X.env.cells.lookup y.1 = some c := fun y hy e => (ok.free y hy e).elim (fun q => I.ok.has _ (.inl q)) fun q => I.ok.has _ (.inr q)
  refine wpAny_comprehension_free (use := use) rfl hs (closure_ok free) ok.kind (fun y hy e => (ok.uniq y hy).trans (congrArg some e)) (thn (hi.run pins s σ H _ I h) fun xv s1 hx => thn hx fun itv s2 h2 => ?_)
  obtain ⟨it, fp, tn, J, H2, rfl, I2, T, st2, f2, q⟩ := h2
  refine wpAny_newObj_type (newEnv_comp ?_)
  generalize eD : s2.heap.objs.size = D
  obtain ⟨W, ⟨m0, w0⟩, turn⟩ := q D (I2.hok.fresh (Nat.le_of_eq eD))
  generalize es3 : ({ s2 with heap := s2.heap.push { cls := .type "dict", data := .dict #[] } } : Shared) = s3
  have hp3 : s3.heap = s2.heap.push { cls := .type "dict", data := .dict #[] } := by rw [← es3]
  have keep3 : ∀ b o, s2.heap.get? b = some o → s3.heap.get? b = some o := fun b o e => hp3 ▸ Heap.get?_push_of_some _ e
  have I3 : L2.Inv X pins σ (upd H2 D (.dK [])) s3 := by
    subst es3; subst eD
    exact I2.laid (t' := s2.toks) (fun b o e => Heap.get?_push_of_some _ e) (Nat.le_refl _) (dk_empty s2.heap I2.big)
  have f3 : ∀ b ∈ fp, FpOk X pins (upd H2 D (.dK [])) b ∧ b < s3.heap.objs.size := fun b hb => by
    obtain ⟨o, e, _⟩ := T.obj _ _ st2 b hb
    have lt := Heap.lt_size e
    refine ⟨⟨(upd_ne (by rw [← eD]; exact Nat.ne_of_lt lt)).trans (f2 b hb).1, (f2 b hb).2⟩, ?_⟩
    rw [hp3, Heap.size_push]
    exact Nat.lt_succ_of_lt lt
  have st3 : tn 0 s3.heap := T.keep _ _ _ st2 fun b _ o e => keep3 b o e
  have I4 := block_start I3 ok hN f3
  generalize eC : s3.heap.objs.size = C at I4 f3 ⊢
  generalize ecl : cellsFrom (C + 1) sc.names (cloFrom X.env.cells sc.names []) = cl at I4 ⊢
  have pg := hg s3 (upd H2 D (.dK [])) C cl fp
  have pt := ht s3 (upd H2 D (.dK [])) C cl fp
  have pk := hk s3 (upd H2 D (.dK [])) C cl fp
  have pe := he s3 (upd H2 D (.dK [])) C cl fp
  have pj := hj s3 (upd H2 D (.dK [])) C cl fp
  have pgj := hgj s3 (upd H2 D (.dK [])) C cl fp
  have ptj := htj s3 (upd H2 D (.dK [])) C cl fp
  have frC : ∀ {H' : Hp}, H' C = none → FpOk X pins H' C := fun n => I3.fpOk (Nat.le_of_eq eC) n
  show codeAny _ _ (.compStart (dcE kx vx t0 i0 t1 i1 c0 c1 sc ps) 0 (.ref it) (.ref D) (compEnvC sc cl C X.env)) (compPost (model X.prog X.w) X.A X.xe use Qf (.ref D) C) { s3 with heap := pushCells (s3.heap.push { cls := .type "dict", data := .dict #[] }) sc.names }
  have n3 : ∀ b ∈ fp, (upd H2 D (.dK [])) b = none := fun b hb => (f3 b hb).1.1
  generalize ece : compEnvC sc cl C X.env = ce at I4 pg pt pk pe pj pgj ptj ⊢
  have cL : ce.locals = C := by subst ece; rfl
  generalize eH3 : upd H2 D (.dK []) = H3 at I3 I4 pg pt pk pe pj pgj ptj w0 n3 f3
  generalize es4 : ({ s3 with heap := pushCells (s3.heap.push { cls := .type "dict", data := .dict #[] }) sc.names } : Shared) = s4 at I4 ⊢
  have st4 : tn 0 s4.heap := T.keep _ _ _ st3 fun b _ o e => by rw [← es4]; exact pushCells_keeps _ _ _ _ (Heap.get?_push_of_some _ e)
  generalize eX : X.blk s3 H3 sc ce fp = Z at I4 pg pt pk pe pj pgj ptj
  have zp : Z.prog = X.prog ∧ Z.w = X.w ∧ Z.A = X.A ∧ Z.env = ce := by subst eX; exact ⟨rfl, rfl, rfl, rfl⟩
  subst eX
  have stat : ∀ {σ' : L2.St} {H' : Hp} {s' : Shared}, L2.Inv (X.blk s3 H3 sc ce fp) [] σ' H' s' → (∀ b ∈ fp, H' b = none) → ∀ b ∈ fp, FpOk (X.blk s3 H3 sc ce fp) [] H' b := fun {σ' H' s'} I' hn b hb =>
    ⟨hn b hb, (I'.ok.exf b hb).1, I'.ok.exfs b hb, .inl hb, fun x c e => (I'.ok.exf b hb).2 x c e, fun p hp => absurd (show p ∈ ([] : List (Addr × Obj)) from hp) (by simp)⟩
  have loop : codeAny (model X.prog X.w) X.A (.compLoop (dcE kx vx t0 i0 t1 i1 c0 c1 sc ps) 0 (.ref it) (.ref D) ce) (compPost (model X.prog X.w) X.A X.xe use Qf (.ref D) C) s4 := by
    refine dc2_loop0 (hsj ce) (fun n s' => ∃ i H', L2.Inv (X.blk s3 H3 sc ce fp) [] (wipe σ (own.map (·.2))) H' s' ∧ tn i s'.heap ∧ (∀ b ∈ fp, H' b = none) ∧ W i n H') ?_ m0 ⟨0, H3, I4, st4, n3, w0⟩
    rintro n s5 ⟨i, H5, I5, st5, n5, w5⟩
    rcases turn i n H5 w5 with ⟨stop, qq⟩ | ⟨go, Nx, hNx, step⟩
    · refine thnF (T.done (X.blk s3 H3 sc ce fp) rfl rfl rfl hc i [] s5 _ H5 (fun _ _ => False) I5 (stat I5 n5) st5 stop) fun r s6 ⟨hr, I6⟩ => ?_
      subst hr
      have nC : H5 C = none := by rw [← cL]; exact I6.free
      obtain ⟨m, hn, _⟩ := I6.loc
      have hn' : s6.heap.Ns C m := by rw [← cL]; exact hn
      exact fin0 D C s6 m H5 (I3.call' (ch := fp) I6.os I6.base I6.hok I6.bare fun b hb => ⟨(f3 b hb).1.2.2.2.1, (f3 b hb).1.2.1, (f3 b hb).1.2.2.2.2.1, (f3 b hb).1.2.2.2.2.2⟩) qq hn' (frC nC)
    · refine thnF (T.item (X.blk s3 H3 sc ce fp) rfl rfl rfl hc i [] s5 _ H5 (fun _ _ => False) I5 (stat I5 n5) st5 go) fun r s6 ⟨u, hr, h6⟩ => ?_
      subst hr
      refine thnF h6 fun _ s7 ⟨x, H7, I7, r7, y7, st7, n7⟩ => ?_
      refine thnF (pg.run _ s7 _ H7 x u _ (I7.pinned (stat I7 n7) (T.obj _ _ st7)) r7 (step x H7 y7)) fun _ s8 ⟨σ8, H8, I8, hw8, q8⟩ => thnF (pt.run _ s8 σ8 H8 _ I8 q8) fun b s9 ⟨H9, I9, q9⟩ => ?_
      have kept8 : ∀ (j : Nat) v, (wipe σ (own.map (·.2)))[j]? = some (some v) → σ8[j]? = some (some v) := fun j v e => (wipe_some (hw8 ▸ e)).1
      have keptY : ∀ (j : Nat) v, (wipe σ (own.map (·.2)))[j]? = some (some v) → (wipe σ8 ws)[j]? = some (some v) := fun j v e => by
        obtain ⟨e1, e2⟩ := wipe_some (hw8 ▸ e : (wipe σ8 (own.map (·.2)))[j]? = some (some v))
        exact (wipe_out fun z => e2 (hv j z)).trans e1
      have len8 : (wipe σ (own.map (·.2))).length = σ8.length := (congrArg List.length hw8.symm).trans (wipe_length σ8 _)
      have fin : ∀ {σ9 : L2.St} {s' : Shared} {H' : Hp}, L2.Inv (X.blk s3 H3 sc ce fp) ([] ++ pinsAt fp s7.heap) σ9 H' s' → (wipe σ (own.map (·.2))).length = σ9.length → (∀ (j : Nat) v, (wipe σ (own.map (·.2)))[j]? = some (some v) → σ9[j]? = some (some v)) → Nx H' →
          ∃ m, m < n ∧ ∃ i H', L2.Inv (X.blk s3 H3 sc ce fp) [] (wipe σ (own.map (·.2))) H' s' ∧ tn i s'.heap ∧ (∀ b ∈ fp, H' b = none) ∧ W i m H' := fun {σ9 s' H'} I' hl hk nx => by
        obtain ⟨m', hm, w'⟩ := hNx H' nx
        have pin : ∀ b ∈ fp, ∀ o, s7.heap.get? b = some o → s'.heap.get? b = some o ∧ H' b = none := fun b hb o e => by
          have z := I'.pin (b, o) (List.mem_append_right _ (List.mem_append_right _ (mem_pinsAt hb e)))
          exact ⟨z.1, z.2.1⟩
        refine ⟨m', hm, i + 1, H', (I'.unpinned (pins := [])).weak hl hk, T.keep _ _ _ st7 fun b hb o e => (pin b hb o e).1, fun b hb => ?_, w'⟩
        obtain ⟨o, e, _⟩ := T.obj _ _ st7 b hb
        exact (pin b hb o e).2
      cases b with
      | false => exact fin I9 len8 kept8 q9
      | true =>
        refine thnF (pj.run _ s9 σ8 H9 _ I9 q9) fun xv s10 hx => thnF hx fun itv s11 h11 => ?_
        obtain ⟨it1, fp1, tn1, L, H11, rfl, I11, T1, st11, f11, Y, ⟨m1, w1⟩, turn1⟩ := h11
        have stat1 : ∀ {H' : Hp}, (∀ b ∈ fp1, H' b = none) → ∀ b ∈ fp1, FpOk (X.blk s3 H3 sc ce fp) ([] ++ pinsAt fp s7.heap) H' b := fun hn b hb => ⟨hn b hb, (f11 b hb).2⟩
        have loop1 : codeAny (model X.prog X.w) X.A (.compLoop (dcE kx vx t0 i0 t1 i1 c0 c1 sc ps) 1 (.ref it1) (.ref D) ce)
            (fun r s' => match r with
              | .ok _ => ∃ m, m < n ∧ ∃ i H', L2.Inv (X.blk s3 H3 sc ce fp) [] (wipe σ (own.map (·.2))) H' s' ∧ tn i s'.heap ∧ (∀ b ∈ fp, H' b = none) ∧ W i m H'
              | .error _ => False) s11 := by
          refine dc2_loop1 (fun k s' => ∃ j H', L2.Inv (X.blk s3 H3 sc ce fp) ([] ++ pinsAt fp s7.heap) (wipe σ8 ws) H' s' ∧ tn1 j s'.heap ∧ (∀ b ∈ fp1, H' b = none) ∧ Y j k H') ?_ m1 ⟨0, H11, I11.weak (wipe_length _ _) (fun j v e => (wipe_some e).1), st11, fun b hb => (f11 b hb).1, w1⟩
          rintro k s12 ⟨j, H12, I12, st12, n12, w12⟩
          rcases turn1 j k H12 w12 with ⟨stop1, nx1⟩ | ⟨go1, Ny, hNy, step1⟩
          · refine thnF (T1.done (X.blk s3 H3 sc ce fp) rfl rfl rfl hc j _ s12 (wipe σ8 ws) H12 (fun _ _ => False) I12 (stat1 n12) st12 stop1) fun r s13 ⟨hr, I13⟩ => ?_
            subst hr
            exact fin I13 (len8.trans (wipe_length σ8 ws).symm) keptY nx1
          · refine thnF (T1.item (X.blk s3 H3 sc ce fp) rfl rfl rfl hc j _ s12 (wipe σ8 ws) H12 (fun _ _ => False) I12 (stat1 n12) st12 go1) fun r s13 ⟨u1, hr, h13⟩ => ?_
            subst hr
            refine thnF h13 fun _ s14 ⟨x1, H14, I14, r14, y14, st14, n14⟩ => ?_
            refine thnF (pgj.run _ s14 (wipe σ8 ws) H14 x1 u1 _ (I14.pinned (stat1 n14) (T1.obj _ _ st14)) r14 (step1 x1 H14 y14)) fun _ s15 ⟨σ15, H15, I15, hw15, q15⟩ => thnF (ptj.run _ s15 σ15 H15 _ I15 q15) fun b1 s16 ⟨H16, I16, q16⟩ => ?_
            have fin1 : ∀ {s' : Shared} {H' : Hp}, L2.Inv (X.blk s3 H3 sc ce fp) (([] ++ pinsAt fp s7.heap) ++ pinsAt fp1 s14.heap) σ15 H' s' → Ny H' → ∃ m, m < k ∧ ∃ j H', L2.Inv (X.blk s3 H3 sc ce fp) ([] ++ pinsAt fp s7.heap) (wipe σ8 ws) H' s' ∧ tn1 j s'.heap ∧ (∀ b ∈ fp1, H' b = none) ∧ Y j m H' := fun {s' H'} I' nx => by
              obtain ⟨m', hm, w'⟩ := hNy H' nx
              have pin : ∀ b ∈ fp1, ∀ o, s14.heap.get? b = some o → s'.heap.get? b = some o ∧ H' b = none := fun b hb o e => by
                have z := I'.pin (b, o) (List.mem_append_right _ (List.mem_append_right _ (mem_pinsAt hb e)))
                exact ⟨z.1, z.2.1⟩
              refine ⟨m', hm, j + 1, H', I'.unpinned.weak ((congrArg List.length hw15.symm).trans (wipe_length σ15 _)) (fun j v e => (wipe_some (hw15 ▸ e)).1), T1.keep _ _ _ st14 fun b hb o e => (pin b hb o e).1, fun b hb => ?_, w'⟩
              obtain ⟨o, e, _⟩ := T1.obj _ _ st14 b hb
              exact (pin b hb o e).2
            cases b1 with
            | false => exact fin1 I16 q16
            | true =>
              refine thnF (pk.run _ s16 σ15 H16 _ I16 q16) fun a s17 ⟨yk, H17, I17, r17, q17⟩ => thnF (pe.run _ s17 σ15 H17 _ I17 q17) fun z s18 ⟨yv, H18, I18, r18, kvs, key, ek, hD18, hz18, nx⟩ => ?_
              subst ek
              exact d_dictSet (X := X.blk s3 H3 sc ce fp) I18 hD18 hz18 r17 r18 fun s19 I19 => fin1 I19 nx
        exact dc2_start1 loop1 (T1.self X.A 0 _ _ _ st11 loop1)
  exact codeAny_compStart_dict loop (T.self X.A 0 _ _ _ st4 loop)
theorem pe_dc2 {kx vx t0 i0 t1 i1 : Expr} {c0 c1 : List Expr} {sc : Scope} {own : List (Str × Nat)} {ws : List Nat} {ps : Pos} {wi wj : TI} {g gj : TG} {tt tj : TT} {tk tv : TE} (hc : X.calm = true) (hN : X.N.Nodup) (hi : PI X t0 i0 wi) (ok : BlkOk X.N X.env.scope sc own) (hv : ∀ i ∈ ws, i ∈ own.map (·.2))
    (hg : ∀ (s : Shared) (H : Hp) (C : Addr) (cl : List (Str × Addr)) (fp : List Addr), PG (X.blk s H sc (compEnvC sc cl C X.env) fp) t0 g) (ht : ∀ (s : Shared) (H : Hp) (C : Addr) (cl : List (Str × Addr)) (fp : List Addr), PTs (X.blk s H sc (compEnvC sc cl C X.env) fp) c0 tt) (hj : ∀ (s : Shared) (H : Hp) (C : Addr) (cl : List (Str × Addr)) (fp : List Addr), PI (X.blk s H sc (compEnvC sc cl C X.env) fp) t1 i1 wj) (hgj : ∀ (s : Shared) (H : Hp) (C : Addr) (cl : List (Str × Addr)) (fp : List Addr), PG (X.blk s H sc (compEnvC sc cl C X.env) fp) t1 gj) (htj : ∀ (s : Shared) (H : Hp) (C : Addr) (cl : List (Str × Addr)) (fp : List Addr), PTs (X.blk s H sc (compEnvC sc cl C X.env) fp) c1 tj) (hk : ∀ (s : Shared) (H : Hp) (C : Addr) (cl : List (Str × Addr)) (fp : List Addr), PE (X.blk s H sc (compEnvC sc cl C X.env) fp) kx tk) (he : ∀ (s : Shared) (H : Hp) (C : Addr) (cl : List (Str × Addr)) (fp : List Addr), PE (X.blk s H sc (compEnvC sc cl C X.env) fp) vx tv)
    (hs : ∀ x, foldedSetIterable i0 X.env x = pure x := by intro _; rfl) (hsj : ∀ en x, foldedSetIterable i1 en x = pure x := by intro _ _; rfl) :
    PE X (dcE kx vx t0 i0 t1 i1 c0 c1 sc ps) (tDc2 wi g tt wj gj tj tk tv (own.map (·.2)) ws) := ⟨fun pins s σ H Q I h => by
  rw [arm_eval_DictComp]
  refine dc2_core hc hN I hi ok hv hg ht hk he hj hgj htj hs hsj h fun D C s' m H' I' q hn f => ⟨m, hn, fun h2 sb => ?_⟩
  obtain ⟨f0, f1, f2, f3, f4, f5⟩ := f
  exact ⟨.ref D, H', I'.turned (t' := s'.toks) (fun b o hb e => (sb.2 b hb).trans e) f0 f1 f3 f4 f5, rfl, q⟩⟩
end
end Lf

set_option maxHeartbeats 4000000
namespace Sm
open PySem PySem.Spec PyProof.Rows L2 Lf

/-! ## dict comprehensions of two clauses -/
def dL2 (pt : Tg) (tt : Env → M Bool) (fi1 : Ix) (pt1 : Tg) (tt1 : Env → M Bool) (kx vx : Ex) (vs vs1 : List Nat) (ρ : Env) : List PyData → KD → M KD
  | [], acc => fun S => .ok acc S
  | d :: ds, acc => fun S => match asg pt d (wipeE ρ vs) with
    | none => .no
    | some ρ1 => match tt ρ1 S with
      | .ok true S1 => match fi1 ρ1 S1 with
        | .ok ds1 S2 => if acc.length + ds1.length ≤ big then (match dL pt1 tt1 kx vx vs1 ρ1 ds1 acc S2 with
          | .ok acc2 S3 => dL2 pt tt fi1 pt1 tt1 kx vx vs vs1 ρ ds acc2 S3
          | _ => .no) else .no
        | _ => .no
      | .ok false S1 => dL2 pt tt fi1 pt1 tt1 kx vx vs vs1 ρ ds acc S1
      | _ => .no
def eDc2 (pt : Tg) (fi : Ix) (tt : Env → M Bool) (fi1 : Ix) (pt1 : Tg) (tt1 : Env → M Bool) (kx vx : Ex) (vs vs1 : List Nat) : Ex := fun ρ S => (fi ρ S).bind fun ds S1 => limK ds (dL2 pt tt fi1 pt1 tt1 kx vx vs vs1 ρ ds [] S1)
section
variable {X : Cx} {cm : CM} {W : WX} {kx vx tg iter tg1 iter1 : Expr} {ifs ifs1 : List Expr} {scope : Scope} {own : List (Str × Nat)} {vs1 : List Nat} {pos : Pos} {pt pt1 : Tg} {fi fi1 : Ix} {tt tt1 : Env → M Bool} {fk fv : Ex}
theorem dc2_red {vs : List Nat} {σ : L2.St} {H : Hp} {Q : VK} (hsl : ∀ i ∈ pt.slots, i ∈ vs) (hsl1 : ∀ i ∈ pt1.slots, i ∈ vs1) (h : tE cm W (eDc2 pt fi tt fi1 pt1 tt1 fk fv vs vs1) σ H Q) : tDc2 (tI cm W fi) (tG cm pt) (tT cm W0 tt) (tI cm W0 fi1) (tG cm pt1) (tT cm W0 tt1) (tE cm W0 fk) (tE cm W0 fv) vs vs1 σ H Q := by
  obtain ⟨p, ok, h⟩ := h
  exact ⟨p, ok, (fin.bind h).imp (fun ds S1 D1 H1 w1 s1 k J yl L nL => by
    obtain ⟨out, S', e, hl, k2⟩ := limK_inv k
    refine ⟨fun i m H => m = ds.length - i ∧ i ≤ ds.length ∧ ∃ S D kvs l, Wd cm p.A S D (p.Ow ++ (L, .dK kvs) :: p.Fr) H ∧ Same D1 D ∧ DvQ cm D kvs l ∧ (keysD l).Nodup ∧ dL2 pt tt fi1 pt1 tt1 fk fv vs vs1 p.ρ (ds.drop i) l S = .ok out S', ⟨ds.length, by simp, Nat.zero_le _, S1, D1, [], [], w1.newM nL _, .refl _, .nil, List.nodup_nil, e⟩, ?_⟩
    rintro i m H ⟨rfl, hi, S, D, kvs, l, w, s, ha, nd, hc⟩
    by_cases hlt : i < ds.length
    · refine .inr ⟨yl.goes i H hlt ⟨_, _, _, _, w, s⟩, fun H => i + 1 ≤ ds.length ∧ ∃ S D kvs l, Wd cm p.A S D (p.Ow ++ (L, .dK kvs) :: p.Fr) H ∧ Same D1 D ∧ DvQ cm D kvs l ∧ (keysD l).Nodup ∧ dL2 pt tt fi1 pt1 tt1 fk fv vs vs1 p.ρ (ds.drop (i + 1)) l S = .ok out S', fun H' z => ⟨ds.length - (i + 1), by omega, rfl, z.1, z.2⟩, fun x H' y => ?_⟩
      obtain ⟨D2, d, e2, w2, s2, hv2⟩ := yl.yields i H x H' hlt ⟨_, _, _, _, w, s⟩ y _ _ _ _ w s
      rw [List.drop_eq_getElem_cons hlt, show ds[i] = d from (List.getElem_eq_iff hlt).mpr e2] at hc
      unfold dL2 at hc
      cases e1 : asg pt d (wipeE p.ρ vs) with
      | none => rw [e1] at hc; cases hc
      | some ρ1 =>
        rw [e1] at hc
        refine ⟨⟨p.A, S, D2, p.Ow, (L, .dK kvs) :: p.Fr, wipeE p.ρ vs⟩, d, ρ1, ⟨w2, ((ok.er.mono s1).mono (s.trans s2)).wipe _⟩, hv2, e1, fun σ2 er2 b2 => ⟨b2.wipe hsl, ⟨p.A, S, D2, p.Ow, (L, .dK kvs) :: p.Fr, ρ1⟩, ⟨w2, er2⟩, ?_⟩⟩
        dsimp only at hc ⊢
        cases e3 : tt ρ1 S with
        | no => rw [e3] at hc; cases hc
        | er e S1 => rw [e3] at hc; cases hc
        | ok b S3 =>
          rw [e3] at hc
          intro D3 H3 w3 s3
          cases b with
          | false =>
            rw [if_neg Bool.false_ne_true]
            exact ⟨hlt, S3, D3, kvs, l, w3, s.trans (s2.trans s3), ha.mono (s2.trans s3), nd, hc⟩
          | true =>
            rw [if_pos rfl]
            refine ⟨⟨p.A, S3, D3, p.Ow, (L, .dK kvs) :: p.Fr, ρ1⟩, ⟨w3, er2.mono s3⟩, ?_⟩
            dsimp only at hc ⊢
            cases e4 : fi1 ρ1 S3 with
            | no => rw [e4] at hc; cases hc
            | er e S1 => rw [e4] at hc; cases hc
            | ok ds1 S4 =>
              rw [e4] at hc
              dsimp only at hc
              by_cases hb : l.length + ds1.length ≤ big
              · rw [if_pos hb] at hc
                cases e5 : dL pt1 tt1 fk fv vs1 ρ1 ds1 l S4 with
                | no => rw [e5] at hc; cases hc
                | er e S1 => rw [e5] at hc; cases hc
                | ok l2 S5 =>
                  rw [e5] at hc
                  dsimp only at hc
                  intro D4 H4 w4 s4 J1 yl1
                  refine dc_it0 yl1 (fun j H => ∃ S D kvs5 l5, Wd cm p.A S D (p.Ow ++ (L, .dK kvs5) :: p.Fr) H ∧ Same D4 D ∧ DvQ cm D kvs5 l5 ∧ (keysD l5).Nodup ∧ l5.length ≤ l.length + j ∧ dL pt1 tt1 fk fv vs1 ρ1 (ds1.drop j) l5 S = .ok l2 S5) ⟨S4, D4, kvs, l, w4, .refl _, ha.mono (s2.trans (s3.trans s4)), nd, Nat.le_refl _, e5⟩
                    (fun j H _ ⟨S, D, kvs, l, w, s, _⟩ => ⟨_, _, _, _, w, s⟩) (fun j x H H' hj ⟨S6, D6, kvs6, l6, w6, s6, ha6, nd6, hl6, hc6⟩ y => ?_) (fun H ⟨S6, D6, kvs6, l6, w6, s6, ha6, nd6, hl6, hc6⟩ => ?_)
                  · obtain ⟨D7, d7, e7, w7, s7, hv7⟩ := y _ _ _ _ w6 s6
                    rw [List.drop_eq_getElem_cons hj, show ds1[j] = d7 from (List.getElem_eq_iff hj).mpr e7] at hc6
                    exact dc_turn (er2.mono (s3.trans s4)) (s6.trans s7) w7 hv7 (ha6.mono s7) nd6 hc6 (by omega) hsl1 _ (fun S8 D8 H8 kvs8 l8 w8 s8 ha8 nd8 hl8 hc8 => ⟨S8, D8, kvs8, l8, w8, s6.trans (s7.trans s8), ha8, nd8, by omega, hc8⟩)
                  · rw [List.drop_length] at hc6
                    unfold dL at hc6
                    cases hc6
                    exact ⟨hlt, _, D6, kvs6, _, w6, s.trans (s2.trans (s3.trans (s4.trans s6))), ha6, nd6, hc⟩
              · rw [if_neg hb] at hc
                cases hc
    · have e0 : i = ds.length := by omega
      subst e0
      refine .inl ⟨yl.stops H ⟨_, _, _, _, w, s⟩, ?_⟩
      rw [List.drop_length] at hc
      unfold dL2 at hc
      cases hc
      obtain ⟨w', s'⟩ := w.toD
      exact k2 _ _ w' (s.trans s') _ (.dK (.inl upd_same) (by rw [ha.keys]; exact nd) (ha.mono s').dvk)) fun _ _ _ _ _ _ z => z⟩
theorem g_dc2 (hc : X.calm = true) (hN : X.N.Nodup) (hi : GI X cm W tg iter fi) (ok : BlkOk X.N X.env.scope scope own) (hv : ∀ i ∈ vs1, i ∈ own.map (·.2))
    (hg : ∀ (s : Shared) (H : Hp) (C : Addr) (cl : List (Str × Addr)) (fp : List Addr), GG (X.blk s H scope (compEnvC scope cl C X.env) fp) cm tg pt) (ht : ∀ (s : Shared) (H : Hp) (C : Addr) (cl : List (Str × Addr)) (fp : List Addr), GTs (X.blk s H scope (compEnvC scope cl C X.env) fp) cm W0 ifs tt)
    (hi1 : ∀ (s : Shared) (H : Hp) (C : Addr) (cl : List (Str × Addr)) (fp : List Addr), GI (X.blk s H scope (compEnvC scope cl C X.env) fp) cm W0 tg1 iter1 fi1)
    (hg1 : ∀ (s : Shared) (H : Hp) (C : Addr) (cl : List (Str × Addr)) (fp : List Addr), GG (X.blk s H scope (compEnvC scope cl C X.env) fp) cm tg1 pt1) (ht1 : ∀ (s : Shared) (H : Hp) (C : Addr) (cl : List (Str × Addr)) (fp : List Addr), GTs (X.blk s H scope (compEnvC scope cl C X.env) fp) cm W0 ifs1 tt1)
    (hk : ∀ (s : Shared) (H : Hp) (C : Addr) (cl : List (Str × Addr)) (fp : List Addr), GE (X.blk s H scope (compEnvC scope cl C X.env) fp) cm W0 kx fk)
    (he : ∀ (s : Shared) (H : Hp) (C : Addr) (cl : List (Str × Addr)) (fp : List Addr), GE (X.blk s H scope (compEnvC scope cl C X.env) fp) cm W0 vx fv) (hsl : ∀ i ∈ pt.slots, i ∈ own.map (·.2) := by decide) (hsl1 : ∀ i ∈ pt1.slots, i ∈ vs1 := by decide) (hs : ∀ x, foldedSetIterable iter X.env x = pure x := by intro _; rfl) (hs1 : ∀ env x, foldedSetIterable iter1 env x = pure x := by intro _ _; rfl) :
    GE X cm W (.DictComp kx vx [⟨tg, iter, ifs, 0⟩, ⟨tg1, iter1, ifs1, 0⟩] scope pos) (eDc2 pt fi tt fi1 pt1 tt1 fk fv (own.map (·.2)) vs1) :=
  pe_imp (pe_dc2 hc hN hi ok hv hg ht hi1 hg1 ht1 hk he hs hs1) fun σ H Q h => dc2_red hsl hsl1 h
end
end Sm

set_option maxHeartbeats 4000000
namespace Lf
open PySem PySem.Spec PyProof.Rows L2
/-- with or without a lock -/
def tMay (t : TE) : TE := fun σ H Q => t σ H Q ∨ tLockE t σ H Q
theorem pe_may {X : Cx} {e : Expr} {t : TE} (h : PE X e t) : PE X e (tMay t) := ⟨fun pins s σ H Q I q => q.elim (fun q => h.run pins s σ H Q I q) fun q => (pe_lock h).run pins s σ H Q I q⟩
end Lf
namespace Sm
open PySem PySem.Spec PyProof.Rows L2 Lf

/-! ## a lock does not change what data say -/
structure Sim (D D' : Hp) : Prop where
  rd : ∀ a kvs, Rd D a (.dK kvs) → Rd D' a (.dK kvs)
  at' : ∀ a o, D a = some o → (∀ kvs, o ≠ .dK kvs) → (∀ od kvs, o ≠ .frz od (.dK kvs)) → D' a = some o
mutual
theorem Dv.sim {cm : CM} {H H' : Hp} (e : Sim H H') {v : V} {d : PyData} : Dv cm H v d → Dv cm H' v d
  | .non => .non
  | .bl b => .bl b
  | .int i => .int i
  | .str x => .str x
  | .lst h k => .lst (e.at' _ _ h (fun _ z => by cases z) (fun _ _ z => by cases z)) (DvA.sim e k)
  | .tup h k => .tup (e.at' _ _ h (fun _ z => by cases z) (fun _ _ z => by cases z)) (DvA.sim e k)
  | .dK h n k => .dK (e.rd _ _ h) n (DvK.sim e k)
  | .dT h n k => .dT (e.at' _ _ h (fun _ z => by cases z) (fun _ _ z => by cases z)) n (DvT.sim e k)
  | .ins h c k => .ins (e.at' _ _ h (fun _ z => by cases z) (fun _ _ z => by cases z)) c (DvF.sim e k)
theorem DvA.sim {cm : CM} {H H' : Hp} (e : Sim H H') {v : List V} {d : List PyData} : DvA cm H v d → DvA cm H' v d
  | .nil => .nil
  | .cons h k => .cons (Dv.sim e h) (DvA.sim e k)
theorem DvK.sim {cm : CM} {H H' : Hp} (e : Sim H H') {v : List (Key × V)} {d : List (PyData × PyData)} : DvK cm H v d → DvK cm H' v d
  | .nil => .nil
  | .cons h k => .cons (Dv.sim e h) (DvK.sim e k)
theorem DvT.sim {cm : CM} {H H' : Hp} (e : Sim H H') {v : List (List Key × V)} {d : List (PyData × PyData)} : DvT cm H v d → DvT cm H' v d
  | .nil => .nil
  | .cons h k => .cons (Dv.sim e h) (DvT.sim e k)
theorem DvF.sim {cm : CM} {H H' : Hp} (e : Sim H H') {v : List (Str × V)} {d : List (PyData × PyData)} : DvF cm H v d → DvF cm H' v d
  | .nil => .nil
  | .cons h k => .cons (Dv.sim e h) (DvF.sim e k)
end
section
variable {cm : CM} {A : List Addr} {S : Sto} {D : Hp} {F Ow : List (Addr × HO)} {H : Hp} {a : Addr} {kvs : List (Key × V)} {od : Obj}
theorem sim_lock (h : D a = some (.dK kvs)) : Sim D (upd D a (.frz od (.dK kvs))) := by
  refine ⟨fun b kv r => ?_, fun b o e n1 n2 => ?_⟩
  · by_cases hb : b = a
    · subst hb
      rcases r with r | ⟨o, r⟩
      · rw [h] at r
        cases r
        exact .inr ⟨od, upd_same⟩
      · rw [h] at r
        cases r
    · exact r.imp (fun z => by rw [upd_ne hb]; exact z) fun ⟨o, z⟩ => ⟨o, by rw [upd_ne hb]; exact z⟩
  · by_cases hb : b = a
    · subst hb
      rw [h] at e
      cases e
      exact absurd rfl (n1 kvs)
    · rw [upd_ne hb]
      exact e
theorem sim_unlock (h : D a = some (.frz od (.dK kvs))) : Sim D (upd D a (.dK kvs)) := by
  refine ⟨fun b kv r => ?_, fun b o e n1 n2 => ?_⟩
  · by_cases hb : b = a
    · subst hb
      rcases r with r | ⟨o, r⟩
      · rw [h] at r
        cases r
      · rw [h] at r
        cases r
        exact .inl upd_same
    · exact r.imp (fun z => by rw [upd_ne hb]; exact z) fun ⟨o, z⟩ => ⟨o, by rw [upd_ne hb]; exact z⟩
  · by_cases hb : b = a
    · subst hb
      rw [h] at e
      cases e
      exact absurd rfl (n2 od kvs)
    · rw [upd_ne hb]
      exact e
theorem Wd.lock {o o' : HO} (w : Wd cm A S D F H) (h : D a = some o) (s : Sim D (upd D a o')) : Wd cm A S (upd D a o') F (upd H a o') := by
  refine ⟨fun b u e => ?_, fun q hq => ?_, w.ndF, fun n ds e => ?_, fun b hb => ?_, w.ndA, w.len⟩
  · by_cases hb : b = a
    · subst hb
      rw [upd_same] at e ⊢
      exact e
    · rw [upd_ne hb] at e ⊢
      exact w.sub _ _ e
  · obtain ⟨k1, k2, k3⟩ := w.frs q hq
    have ne : q.1 ≠ a := fun z => by rw [z, h] at k2; cases k2
    exact ⟨by rw [upd_ne ne]; exact k1, by rw [upd_ne ne]; exact k2, k3⟩
  · obtain ⟨b, xs, k1, k2, k3⟩ := w.cel n ds e
    have ne : b ≠ a := fun z => by
      have := w.out b (List.mem_of_getElem? k1)
      rw [z, h] at this
      cases this
    exact ⟨b, xs, k1, by rw [upd_ne ne]; exact k2, k3.sim s⟩
  · have ne : b ≠ a := fun z => by
      have := w.out b hb
      rw [z, h] at this
      cases this
    rw [upd_ne ne]
    exact w.out b hb
theorem VR.sim {D' : Hp} {x : Vl} {v : V} (s : Sim D D') (h : VR cm A D Ow x v) : VR cm A D' Ow x v := by
  cases x with
  | d x => exact Dv.sim s h
  | c n => exact h
  | o ds =>
    obtain ⟨b, xs, h1, h2, h3⟩ := h
    exact ⟨b, xs, h1, h2, h3.sim s⟩
  | m t ps =>
    obtain ⟨b, o, h1, h2, h3⟩ := h
    refine ⟨b, o, h1, h2, ?_⟩
    cases t with
    | false => obtain ⟨kvs, h4, h5, h6⟩ := h3; exact ⟨kvs, h4, h5, h6.sim s⟩
    | true => obtain ⟨kvs, h4, h5, h6⟩ := h3; exact ⟨kvs, h4, h5, h6.sim s⟩
theorem Er.sim {D' : Hp} {ρ : Env} {σ : L2.St} (s : Sim D D') (h : Er cm A D Ow ρ σ) : Er cm A D' Ow ρ σ :=
  ⟨h.len, fun i x e => by obtain ⟨v, h1, h2⟩ := h.at' i x e; exact ⟨v, h1, h2.sim s⟩, h.ne⟩
/-- the keys of a dict that is locked -/
theorem yl_keys {l : KD} (h : D a = some (.frz od (.dK kvs))) (q : DvQ cm D kvs l) : Yl cm (Itk a od kvs) D ((keysD l).map kD) := by
  have w := walk_keys (d := a) (o := od) (kvs := kvs)
  unfold Yl
  have hk := q.keys
  have hlen : ((keysD l).map kD).length = kvs.length := by rw [List.length_map, ← hk, List.length_map]
  rw [hlen]
  refine w.mono (fun H ⟨A, S, D1, F, wd, s⟩ => wd.sub _ _ (s _ _ h)) fun i H x H' hi _ y A S D1 F wd s => ?_
  obtain ⟨rfl, k, v, e, rfl⟩ := y
  refine ⟨D1, kD k, ?_, wd, .refl _, ?_⟩
  · rw [List.getElem?_map, ← hk, List.getElem?_map, e]
    rfl
  · cases k with
    | inl i => exact .int i
    | inr x => exact .str x
end
end Sm

set_option maxHeartbeats 4000000
namespace Sm
open PySem PySem.Spec PyProof.Rows L2 Lf

/-! ## {.. for k in a dict by name} -/
section
variable {cm : CM} {pt : Tg} {tt : Env → M Bool} {fk fv : Ex} {vs : List Nat} {ρ : Env} {A : List Addr} {Ow Fr : List (Addr × HO)} {σ : L2.St}
theorem dc_body {ds : List PyData} {S1 S' : Sto} {D1 H1 : Hp} {out : KD} {J : It} (er : Er cm A D1 Ow ρ σ) (w1 : Wd cm A S1 D1 (Ow ++ Fr) H1) (e : dL pt tt fk fv vs ρ ds [] S1 = .ok out S') (hl : ds.length ≤ big) (yl : Yl cm J D1 ds) (hsl : ∀ i ∈ pt.slots, i ∈ vs) {Qd : Addr → Hp → Prop} (L : Addr) (nL : H1 L = none)
    (k2 : ∀ D' H', Wd cm A S' D' (Ow ++ Fr) H' → Same D1 D' → Dv cm D' (.ref L) (.dict (encK out)) → Qd L H') :
    ∃ W1 : Nat → Nat → Hp → Prop, (∃ m, W1 0 m (upd H1 L (.dK []))) ∧ ∀ i m H, W1 i m H →
      (J.stop i H ∧ Qd L H) ∨ (J.go i H ∧ ∃ Nx : Hp → Prop, (∀ H', Nx H' → ∃ m', m' < m ∧ W1 (i + 1) m' H') ∧ ∀ x H', J.yld i H x H' → tG cm pt x (wipe σ vs) H' fun σ2 H2 => wipe σ2 vs = wipe σ vs ∧ tT cm W0 tt σ2 H2 fun b H3 =>
        if b = true then tE cm W0 fk σ2 H3 fun y H4 => tE cm W0 fv σ2 H4 fun z H5 => ∃ kvs k, y = kV k ∧ H5 L = some (.dK kvs) ∧ kvs.length < sizeLine ∧ Nx (upd H5 L (.dK (putK kvs k z))) else Nx H3) := by
  refine dc_it0 yl (fun i H => ∃ S D kvs l, Wd cm A S D (Ow ++ (L, .dK kvs) :: Fr) H ∧ Same D1 D ∧ DvQ cm D kvs l ∧ (keysD l).Nodup ∧ l.length ≤ i ∧ dL pt tt fk fv vs ρ (ds.drop i) l S = .ok out S') ⟨S1, D1, [], [], w1.newM nL _, .refl _, .nil, List.nodup_nil, Nat.le_refl _, e⟩
    (fun i H _ ⟨S, D, kvs, l, w, s, _⟩ => ⟨_, _, _, _, w, s⟩) (fun i x H H' hi ⟨S, D, kvs, l, w, s, ha, nd, hz, hc⟩ y => ?_) (fun H ⟨S, D, kvs, l, w, s, ha, nd, hz, hc⟩ => ?_)
  · obtain ⟨D2, d, e2, w2, s2, hv⟩ := y _ _ _ _ w s
    rw [List.drop_eq_getElem_cons hi, show ds[i] = d from (List.getElem_eq_iff hi).mpr e2] at hc
    exact dc_turn er (s.trans s2) w2 hv (ha.mono s2) nd hc (by omega) hsl _ (fun S3 D3 H3 kvs3 l3 w3 s3 ha3 nd3 hl3 hc3 => ⟨S3, D3, kvs3, l3, w3, s.trans (s2.trans s3), ha3, nd3, by omega, hc3⟩)
  · rw [List.drop_length] at hc
    unfold dL at hc
    cases hc
    obtain ⟨w', s'⟩ := w.toD
    exact k2 _ _ w' (s.trans s') (.dK (.inl upd_same) (by rw [ha.keys]; exact nd) (ha.mono s').dvk)
end
def eDcK (i : Nat) (pt : Tg) (tt : Env → M Bool) (kx vx : Ex) (vs : List Nat) : Ex := fun ρ S => match ρ[i]? with
  | some (some (.d (.dict ps))) => match decK ps with
    | some (q :: l) => limK ((keysD (q :: l)).map kD) (dL pt tt kx vx vs ρ ((keysD (q :: l)).map kD) [] S)
    | _ => .no
  | _ => .no
section
variable {X : Cx} {cm : CM} {W : WX} {kx vx tg : Expr} {ifs : List Expr} {scope : Scope} {own : List (Str × Nat)} {pos vpos : Pos} {pt : Tg} {tt : Env → M Bool} {fk fv : Ex} {x : Str} {i : Nat}
theorem dcK_red {vs : List Nat} {σ : L2.St} {H : Hp} {Q : VK} (hsl : ∀ i ∈ pt.slots, i ∈ vs) (h : tE cm W (eDcK i pt tt fk fv vs) σ H Q) : tMay (tDc (iKeys (tVar i)) (tG cm pt) (tT cm W0 tt) (tE cm W0 fk) (tE cm W0 fv) vs) σ H Q := by
  obtain ⟨p, ok, h⟩ := h
  unfold eDcK at h
  split at h
  · rename_i ps e0
    split at h
    · rename_i q l e1
      obtain rfl := enc_decK e1
      obtain ⟨v, hv, r⟩ := ok.er.at' _ _ e0
      obtain ⟨a, kvs, rfl, h1, _, h2⟩ := Dv.dq (by simp) r
      obtain ⟨out, S', e, hl, k2⟩ := limK_inv h
      rcases h1 with h1 | ⟨od, h1⟩
      · refine .inr ⟨a, .dK kvs, ok.wd.sub _ _ h1, trivial, fun od => ?_⟩
        have sm := sim_lock (od := od) h1
        have w1 := ok.wd.lock h1 sm
        have er1 := ok.er.sim sm
        have ylk := yl_keys (od := od) (D := upd p.D a (.frz od (.dK kvs))) upd_same (l := q :: l) (by
          have : Dv cm p.D (.ref a) (.dict (encK (q :: l))) := r
          exact DvK.q ((DvQ.dvk h2).sim sm))
        refine ⟨.ref a, hv, a, od, rfl, .inl ⟨kvs, upd_same, fun L nL => ?_⟩⟩
        refine dc_body (Qd := fun L H' => H' a = some (.frz od (.dK kvs)) ∧ Q (.ref L) (upd H' a (.dK kvs))) er1 w1 e hl ylk hsl L nL fun D' H' w' s' dv => ?_
        have hf : D' a = some (.frz od (.dK kvs)) := s' _ _ upd_same
        have su := sim_unlock hf
        refine ⟨w'.sub _ _ hf, k2 (upd D' a (.dK kvs)) _ (w'.lock hf su) (fun b o hb => ?_) _ (Dv.sim su dv)⟩
        by_cases hba : b = a
        · subst hba
          rw [upd_same]
          rw [h1] at hb
          exact hb
        · rw [upd_ne hba]
          exact s' _ _ (by rw [upd_ne hba]; exact hb)
      · refine .inl ⟨.ref a, hv, a, od, rfl, .inl ⟨kvs, ok.wd.sub _ _ h1, fun L nL => ?_⟩⟩
        exact dc_body (Qd := fun L H' => Q (.ref L) H') ok.er ok.wd e hl (yl_keys h1 h2) hsl L nL fun D' H' w' s' dv => k2 D' H' w' s' _ dv
    · exact absurd h id
  · exact absurd h id
theorem g_dcK (hc : X.calm = true) (hN : X.N.Nodup) (hx : X.N[i]? = some x) (hvis : Vis X.env.scope x) (ok : BlkOk X.N X.env.scope scope own)
    (hg : ∀ (s : Shared) (H : Hp) (C : Addr) (cl : List (Str × Addr)) (fp : List Addr), GG (X.blk s H scope (compEnvC scope cl C X.env) fp) cm tg pt) (ht : ∀ (s : Shared) (H : Hp) (C : Addr) (cl : List (Str × Addr)) (fp : List Addr), GTs (X.blk s H scope (compEnvC scope cl C X.env) fp) cm W0 ifs tt)
    (hk : ∀ (s : Shared) (H : Hp) (C : Addr) (cl : List (Str × Addr)) (fp : List Addr), GE (X.blk s H scope (compEnvC scope cl C X.env) fp) cm W0 kx fk)
    (he : ∀ (s : Shared) (H : Hp) (C : Addr) (cl : List (Str × Addr)) (fp : List Addr), GE (X.blk s H scope (compEnvC scope cl C X.env) fp) cm W0 vx fv) (hsl : ∀ i ∈ pt.slots, i ∈ own.map (·.2) := by decide) (hd : (x == ("__debug__" : Str)) = false := by decide) (hcd : (x == ("__classdict__" : Str)) = false := by decide)
    (hs : ∀ y, foldedSetIterable (.Name x vpos) X.env y = pure y := by intro _; rfl) :
    GE X cm W (.DictComp kx vx [⟨tg, .Name x vpos, ifs, 0⟩] scope pos) (eDcK i pt tt fk fv (own.map (·.2))) :=
  pe_imp (pe_may (pe_dc hc hN (pi_keys (pe_var hx hvis hd hcd)) ok hg ht hk he hs)) fun σ H Q h => dcK_red hsl h
end
end Sm

set_option maxHeartbeats 4000000
namespace Sm
open PySem PySem.Spec PyProof.Rows L2 Lf

/-! ## sorted texts -/
def ltB (x y : Str) : Bool := decide (x.cps.toList < y.cps.toList)
abbrev LeT (x y : Str) : Prop := ltB y x = false
theorem leT_of {x y : Str} : LeT x y ↔ x.cps.toList ≤ y.cps.toList := ⟨fun h => of_decide_eq_false h, fun h => decide_eq_false h⟩
theorem LeT.trans {x y z : Str} (h : LeT x y) (k : LeT y z) : LeT x z := leT_of.mpr (List.le_trans (leT_of.mp h) (leT_of.mp k))
theorem LeT.anti {x y : Str} (h1 : LeT y x) (h2 : LeT x y) : x = y := by
  rcases List.le_iff_lt_or_eq.mp (leT_of.mp h2) with z | z
  · exact absurd z (of_decide_eq_false h1)
  · exact PySem.W.str_of_cps z
theorem leT_of_lt {x y : Str} (h : ltB x y = true) : LeT x y := leT_of.mpr (List.le_of_lt (of_decide_eq_true h))
theorem rising_pw : ∀ (r : List Str) (p : Str), risingS p r = true → (∀ x ∈ r, LeT p x) ∧ r.Pairwise LeT
  | [], _, _ => ⟨(fun x hx => by cases hx), List.Pairwise.nil⟩
  | y :: r, p, h => by
    simp only [risingS, Bool.and_eq_true, Bool.not_eq_true'] at h
    have h1 : LeT p y := by
      have := h.1
      rw [ltCps_eq] at this
      exact this
    obtain ⟨i1, i2⟩ := rising_pw r y h.2
    refine ⟨fun x hx => ?_, List.Pairwise.cons i1 i2⟩
    rcases List.mem_cons.mp hx with rfl | hx
    · exact h1
    · exact h1.trans (i1 x hx)
theorem sortedS_pw {l : List Str} (h : sortedS l = true) : l.Pairwise LeT := by
  cases l with
  | nil => exact List.Pairwise.nil
  | cons x r =>
    obtain ⟨i1, i2⟩ := rising_pw r x h
    exact List.Pairwise.cons i1 i2
def insT (x : Str) : List Str → List Str
  | [] => [x]
  | y :: ys => if ltB y x = true then y :: insT x ys else x :: y :: ys
def sortT (xs : List Str) : List Str := xs.foldr insT []
theorem insT_perm {x : Str} : ∀ {ys : List Str}, (insT x ys).Perm (x :: ys)
  | [] => .refl _
  | y :: ys => by
    unfold insT
    split
    · exact (List.Perm.cons y insT_perm).trans (List.Perm.swap x y ys)
    · exact .refl _
theorem insT_up {x : Str} : ∀ {ys : List Str}, ys.Pairwise LeT → (insT x ys).Pairwise LeT
  | [], _ => by simp [insT]
  | y :: ys, h => by
    obtain ⟨h1, h2⟩ := List.pairwise_cons.mp h
    unfold insT
    split
    · rename_i c
      refine List.pairwise_cons.mpr ⟨fun z hz => ?_, insT_up h2⟩
      rcases List.mem_cons.mp (insT_perm.mem_iff.mp hz) with rfl | hz
      · exact leT_of_lt c
      · exact h1 z hz
    · rename_i c
      have c' : LeT x y := Bool.eq_false_iff.mpr c
      refine List.pairwise_cons.mpr ⟨fun z hz => ?_, h⟩
      rcases List.mem_cons.mp hz with rfl | hz
      · exact c'
      · exact c'.trans (h1 z hz)
theorem sortT_perm : ∀ (xs : List Str), (sortT xs).Perm xs
  | [] => .refl _
  | x :: xs => insT_perm.trans ((sortT_perm xs).cons x)
theorem sortT_up : ∀ (xs : List Str), (sortT xs).Pairwise LeT
  | [] => List.Pairwise.nil
  | x :: xs => insT_up (sortT_up xs)
theorem leT_unique : ∀ {xs ys : List Str}, xs.Pairwise LeT → ys.Pairwise LeT → xs.Perm ys → xs = ys
  | [], ys, _, _, p => (List.Perm.nil_eq p)
  | x :: xs, [], _, _, p => absurd p.length_eq (by simp)
  | x :: xs, y :: ys, h1, h2, p => by
    obtain ⟨a1, a2⟩ := List.pairwise_cons.mp h1
    obtain ⟨b1, b2⟩ := List.pairwise_cons.mp h2
    have e : x = y := by
      rcases List.mem_cons.mp (p.mem_iff.mp List.mem_cons_self) with e | e
      · exact e
      · rcases List.mem_cons.mp (p.mem_iff.mpr List.mem_cons_self) with e' | e'
        · exact e'.symm
        · exact LeT.anti (b1 x e) (a1 y e')
    subst e
    rw [leT_unique a2 b2 (List.Perm.cons_inv p)]
def fSortedT : List PyData → Option PyData
  | [.list ds] => match asStrs ds with
    | some ns => if ns.length < 64 then some (.list ((sortT ns).map PyData.str)) else none
    | none => none
  | _ => none
section
variable {X : Cx} {cm : CM}
theorem c_sortedT : Ca X cm (.builtin "sorted") fSortedT := ⟨_, cr_sortedS, fun A S D F H xs as c Q w hx e q => by
  unfold fSortedT at e
  split at e
  · split at e
    · rename_i ds ns ei
      split at e
      · rename_i hl
        cases e
        obtain ⟨v, rfl, hv⟩ := dwA1 hx
        obtain ⟨a, ys, rfl, h1, h2⟩ := hv.lst w.sub
        rw [asStrs_eq ei] at h2
        rw [dvA_strs h2] at h1
        refine ⟨a, ns, rfl, .of h1, hl, fun ms p pm up np => ?_⟩
        have em : ms = sortT ns := leT_unique (sortedS_pw up) (sortT_up ns) (pm.trans (sortT_perm ns).symm)
        rw [em]
        obtain ⟨w', s'⟩ := w.new np (.lst ((sortT ns).map V.str))
        exact q _ _ _ w' s' (.lst upd_same ((DvA.strs _).mono s'))
      · cases e
    · cases e
  · cases e⟩
def fSortedA (l : List PyData) : Option PyData := match fSortedI l with
  | some c => some c
  | none => fSortedT l
theorem c_sortedA : Ca X cm (.builtin "sorted") fSortedA := by
  obtain ⟨r, h1, h2⟩ := c_sortedI (X := X) (cm := cm)
  obtain ⟨r', h3, h4⟩ := c_sortedT (X := X) (cm := cm)
  refine ⟨fun vs H Q => r vs H Q ∨ r' vs H Q, fun pins s σ H xs us Q I rr h => h.elim (h1 pins s σ H xs us Q I rr) (h3 pins s σ H xs us Q I rr), fun A S D F H xs as c Q w hx e q => ?_⟩
  unfold fSortedA at e
  split at e
  · rename_i c' e'
    cases e
    exact .inl (h2 _ _ _ _ _ _ _ _ _ w hx e' q)
  · exact .inr (h4 _ _ _ _ _ _ _ _ _ w hx e q)
end
end Sm

set_option maxHeartbeats 4000000
namespace Sm
open PySem PySem.Spec PyProof.Rows L2 Lf

/-! ## dicts of one's own -/
def putP (t : Bool) (ps : List (PyData × PyData)) (k d : PyData) : Option (List (PyData × PyData)) := match t with
  | false => match keyOf k, decK ps with
    | some k, some l => if l.length ≤ big then some (encK (putD l k d)) else none
    | _, _ => none
  | true => match keyTOf k, decT ps with
    | some k, some l => if l.length ≤ big then some (encT (putD l k d)) else none
    | _, _ => none
def hasP (t : Bool) (ps : List (PyData × PyData)) (k : PyData) : Option Bool := match t with
  | false => match keyOf k, decK ps with
    | some k, some l => some (valD l k).isSome
    | _, _ => none
  | true => match keyTOf k, decT ps with
    | some k, some l => some (valD l k).isSome
    | _, _ => none
def sMap (t : Bool) (i : Nat) : Sx := fun ρ S => some (.nx, ρ.set i (some (.m t [])), S)
def sMapPut (i : Nat) (k e : Ex) : Sx := fun ρ S => match ρ[i]? with
  | some (some (.m t ps)) => sE (e ρ S) ρ fun x S1 => match x with
    | .d y => sE (k ρ S1) ρ fun z S2 => match z with
      | .d kd => match putP t ps kd y with
        | some ps' => some (.nx, ρ.set i (some (.m t ps')), S2)
        | none => none
      | _ => none
    | _ => none
  | _ => none
/-- e in x, e not in x -/
def eHasK (k : Bool → Bool) (i : Nat) (e : Ex) : Ex := fun ρ S => (e ρ S).bind fun x S1 => match x with
  | .d kd => match ρ[i]? with
    | some (some (.m t ps)) => match hasP t ps kd with
      | some b => .ok (.d (.bool (k b))) S1
      | none => .no
    | some (some (.d (.dict (q :: ps)))) => match (match hasP false (q :: ps) kd with
        | some b => some b
        | none => hasP true (q :: ps) kd) with
      | some b => .ok (.d (.bool (k b))) S1
      | none => .no
    | _ => .no
  | _ => .no
def eHas : Nat → Ex → Ex := eHasK id
def eHasN : Nat → Ex → Ex := eHasK not
section
variable {cm : CM} {D H : Hp} {a : Addr} {o : HO} {t : Bool} {ps : List (PyData × PyData)}
theorem mapH_put {k d : PyData} {ps' : List (PyData × PyData)} {kv v : V} (hm : MapH cm D t o ps) (e : putP t ps k d = some ps') (hk : Dv cm D kv k) (hv : Dv cm D v d) (s : Same D H) (ha : H a = some o) : ∃ o', DPut H a kv v (upd H a o') ∧ MapH cm D t o' ps' := by
  cases t with
  | false =>
    unfold putP at e
    dsimp only at e
    split at e
    · rename_i k' l ek el
      split at e
      · rename_i hl
        cases e
        obtain ⟨kvs, rfl, h1, h2⟩ := hm
        have := keyOf_eq ek
        subst this
        obtain rfl := enc_decK el
        have q := DvK.q h2
        rw [dv_key hk]
        refine ⟨_, DPut.k ha (by rw [q.length]; exact big_le hl), _, rfl, ?_, (q.put hv).dvk⟩
        rw [(q.put hv).keys]
        refine putD_nodup ?_ _ _
        rw [← q.keys]
        exact h1
      · cases e
    · cases e
  | true =>
    unfold putP at e
    dsimp only at e
    split at e
    · rename_i k' l ek el
      split at e
      · rename_i hl
        cases e
        obtain ⟨kvs, rfl, h1, h2⟩ := hm
        have := keyTOf_eq ek
        subst this
        obtain rfl := enc_decT el
        have q := DvT.q h2
        obtain ⟨b, rfl, hb⟩ := dv_keyT hk
        refine ⟨_, DPut.t ha (s _ _ hb) (by rw [q.length]; exact big_le hl), _, rfl, ?_, (q.put hv).dvt⟩
        rw [(q.put hv).keys]
        refine putD_nodup ?_ _ _
        rw [← q.keys]
        exact h1
      · cases e
    · cases e
theorem valD_some {κ : Type} [DecidableEq κ] {kvs : List (κ × V)} {l : List (κ × PyData)} {k : κ} (q : DvQ cm D kvs l) : (valV kvs k).isSome = (valD l k).isSome := by
  cases e : valD l k with
  | none => have := q.val _ e; dsimp only at this; rw [this]; rfl
  | some d => obtain ⟨v, h, _⟩ := q.val _ e; rw [h]; rfl
theorem mapH_has {k : PyData} {b : Bool} {kv : V} (hm : MapH cm D t o ps) (e : hasP t ps k = some b) (hk : Dv cm D kv k) (s : Same D H) (ha : H a = some o) : ∃ r : Option V, DGet H a kv r ∧ r.isSome = b := by
  cases t with
  | false =>
    unfold hasP at e
    dsimp only at e
    split at e
    · rename_i k' l ek el
      cases e
      obtain ⟨kvs, rfl, h1, h2⟩ := hm
      have := keyOf_eq ek
      subst this
      obtain rfl := enc_decK el
      rw [dv_key hk]
      exact ⟨_, DGet.k ha, valD_some (DvK.q h2)⟩
    · cases e
  | true =>
    unfold hasP at e
    dsimp only at e
    split at e
    · rename_i k' l ek el
      cases e
      obtain ⟨kvs, rfl, h1, h2⟩ := hm
      have := keyTOf_eq ek
      subst this
      obtain rfl := enc_decT el
      obtain ⟨b, rfl, hb⟩ := dv_keyT hk
      exact ⟨_, DGet.t ha (s _ _ hb), valD_some (DvT.q h2)⟩
    · cases e
theorem dict_has {q : PyData × PyData} {k : PyData} {b : Bool} {kv v : V} (h : Dv cm D v (.dict (q :: ps))) (e : (match hasP false (q :: ps) k with | some b => some b | none => hasP true (q :: ps) k) = some b) (hk : Dv cm D kv k) (s : Same D H) : ∃ a r, v = .ref a ∧ DGet H a kv r ∧ r.isSome = b := by
  split at e
  · rename_i b' e'
    cases e
    unfold hasP at e'
    dsimp only at e'
    split at e'
    · rename_i k' l ek el
      cases e'
      have := keyOf_eq ek
      subst this
      have ne : l ≠ [] := fun z => by subst z; have := enc_decK el; cases this
      rw [enc_decK el] at h
      obtain ⟨a, kvs, rfl, h1, _, h2⟩ := h.dq ne
      rw [dv_key hk]
      exact ⟨a, _, rfl, .inl ⟨kvs, k', h1.imp (fun z => s _ _ z) (fun ⟨o, z⟩ => ⟨o, s _ _ z⟩), rfl, rfl⟩, valD_some h2⟩
    · cases e'
  · unfold hasP at e
    dsimp only at e
    split at e
    · rename_i k' l ek el
      cases e
      have := keyTOf_eq ek
      subst this
      have ne : l ≠ [] := fun z => by subst z; have := enc_decT el; cases this
      rw [enc_decT el] at h
      obtain ⟨a, kvs, rfl, h1, _, h2⟩ := h.dqT ne
      obtain ⟨b, rfl, hb⟩ := dv_keyT hk
      exact ⟨a, _, rfl, DGet.t (s _ _ h1) (s _ _ hb), valD_some h2⟩
    · cases e
end
section
variable {X : Cx} {cm : CM} {W : WX} {pos apos cpos px pos' : Pos} {e ek : Expr} {f fk : Ex} {x : Str} {i : Nat}
theorem gs_mput {kr : Nat} (hr : Room kr X.A) (hN : X.N[i]? = some x) (hv : Vis X.env.scope x) (hd : (x == ("__debug__" : Str)) = false) (hcd : (x == ("__classdict__" : Str)) = false) (hk : GE X cm W ek fk) (he : GE X cm W e f)
    (ha : ∀ v, assign (.Subscript (.Name x px) ek pos) X.env v = (do
      let ov ← holding [v] (eval (.Name x px) X.env)
      let iv ← holding [v, ov] (eval ek X.env)
      standAt pos
      holding [v, ov, iv] (setItem ov iv v)
      release [v, ov, iv] []) := by intro _; rfl)
    (hs : swapsWithSole [.Subscript (.Name x px) ek pos] e cpos.line X.env = pure false := by rfl) (hw : swappedStores [.Subscript (.Name x px) ek pos] e X.env = pure none := by rfl)
    (h1 : (assignEach [.Subscript (.Name x px) ek pos] X.env).map (·.2) = [assign (.Subscript (.Name x px) ek pos) X.env] := by rfl) :
    GS X cm W (.Assign [.Subscript (.Name x px) ek pos] e cpos) (sMapPut i fk f) :=
  ps_imp (ps_asg he (pg_sub (pe_var hN hv hd hcd) hk (set_dict (by have := hr.un; omega)) ha) hs hw h1) fun Ds σ H ⟨p, ok, h⟩ => by
    unfold sMapPut at h
    split at h
    · rename_i t ps eo
      refine ⟨p, ok, finE (W := W) (okQ := fun y S1 D1 H1 => ∀ u, VR cm p.A D1 p.Ow y u → gSub (tVar i) (tE cm W fk) rSetD u σ H1 Ds.nx) ok h (fun y S1 D1 H1 _ ok1 s k u r => ?_) fun e S1 D1 H1 z => z⟩
      cases y with
      | c _ => exact absurd k id
      | o _ => exact absurd k id
      | m _ _ => exact absurd k id
      | d y =>
        dsimp only at k
        obtain ⟨v, q1, q2⟩ := ok1.er.at' i _ eo
        refine ⟨v, q1, ⟨p.A, S1, D1, p.Ow, p.Fr, p.ρ⟩, ok1, finE (W := W) (okQ := fun z S2 D2 H2 => ∀ t, VR cm p.A D2 p.Ow z t → rSetD v t u H2 fun H3 => Ds.nx σ H3) ok1 k (fun z S2 D2 H2 _ ok2 s2 k2 t' r2 => ?_) fun e S1 D1 H1 z => z⟩
        split at k2
        · rename_i kd
          split at k2
          · rename_i ps' eput
            have hu' : Dv cm D2 u y := Dv.mono s2 r
            obtain ⟨a, o, rfl, hm, hd⟩ := VR.mono (x := .m t ps) s2 q2
            obtain ⟨O1, O2, eO⟩ := List.append_of_mem hm
            have w1 := ok2.wd
            have e1 := ok2.er
            dsimp only at w1 e1
            rw [eO] at w1 e1
            have w1' : Wd cm p.A S2 D2 (O1 ++ (a, o) :: (O2 ++ p.Fr)) H2 := by rw [List.append_assoc, List.cons_append] at w1; exact w1
            obtain ⟨o', g, hm'⟩ := mapH_put hd eput r2 hu' ok2.wd.sub w1'.at_.1
            refine ⟨a, _, rfl, g, ?_⟩
            refine k2 D2 (O1 ++ (a, o') :: O2) σ _ ⟨?_, e1.upG w1 (by rw [eo]; rfl) q1 ⟨a, o', rfl, List.mem_append_right _ List.mem_cons_self, hm'⟩⟩ (.refl _)
            show Wd cm p.A S2 D2 ((O1 ++ (a, o') :: O2) ++ p.Fr) _
            rw [List.append_assoc, List.cons_append]
            exact w1'.up _
          · exact absurd k2 id
        · exact absurd k2 id
    · exact absurd h id
theorem gs_map (t : Bool) (hN : X.N.Nodup) (hi : X.N[i]? = some x) (hx : Loc X.env.scope x) (hs : swapsWith (.Dict [] [] cpos) (some (.Name x pos')) pos.line X.env = pure false := by rfl) (hf : X.fn x = true ∨ X.env.scope.names.lookup x = some .local := by first | exact .inl rfl | exact .inr rfl | assumption) :
    GS X cm W (.Assign [.Name x pos'] (.Dict [] [] cpos) pos) (sMap t i) := by
  cases t with
  | false => exact ps_imp (ps_set hN hi hx pe_dnewK hs hf) fun Ds σ H ⟨p, ok, h⟩ a na => h p.D ((a, .dK []) :: p.Ow) _ _ ⟨ok.wd.newF na _, ok.er.ownG ok.wd na ⟨a, _, rfl, List.mem_cons_self, [], rfl, List.nodup_nil, .nil⟩⟩ (.refl _)
  | true => exact ps_imp (ps_set hN hi hx pe_dnewT hs hf) fun Ds σ H ⟨p, ok, h⟩ a na => h p.D ((a, .dT []) :: p.Ow) _ _ ⟨ok.wd.newF na _, ok.er.ownG ok.wd na ⟨a, _, rfl, List.mem_cons_self, [], rfl, List.nodup_nil, .nil⟩⟩ (.refl _)
theorem has_red {σ : L2.St} {H : Hp} {Q : VK} {k : Bool → Bool} (h : tE cm W (eHasK k i f) σ H Q) : tE cm W f σ H fun y H1 => tVar i σ H1 fun x H2 => ∃ a o, x = .ref a ∧ DGet H2 a y o ∧ Q (.bl (k o.isSome)) H2 := by
  obtain ⟨p, ok, h⟩ := h
  refine ⟨p, ok, (fin.bind h).imp (fun x S1 D1 H1 w s k1 v r => ?_) fun _ _ _ _ _ _ z => z⟩
  split at k1
  · rename_i kd
    split at k1
    · rename_i t ps eo
      split at k1
      · rename_i b eb
        obtain ⟨u, q1, a, o, rfl, hm, hd⟩ := (ok.on w s).er.at' i _ eo
        obtain ⟨ro, g, e⟩ := mapH_has hd eb r w.sub (w.frs _ (List.mem_append_left _ hm)).1
        refine ⟨_, q1, a, ro, rfl, g, ?_⟩
        rw [e]
        exact k1 D1 H1 w (.refl _) _ (.bl _)
      · exact absurd k1 id
    · rename_i q ps eo
      split at k1
      · rename_i b eb
        obtain ⟨u, q1, hd⟩ := (ok.on w s).er.at' i _ eo
        obtain ⟨a, ro, rfl, g, e⟩ := dict_has hd eb r w.sub
        refine ⟨_, q1, a, ro, rfl, g, ?_⟩
        rw [e]
        exact k1 D1 H1 w (.refl _) _ (.bl _)
      · exact absurd k1 id
    · exact absurd k1 id
  · exact absurd k1 id
theorem has_redT {σ : L2.St} {H : Hp} {Q : Bool → Hp → Prop} {k : Bool → Bool} (h : tT cm W (eTest (eHasK k i f)) σ H Q) : tE cm W (eHasK k i f) σ H fun v H1 => ∃ b, v = .bl b ∧ Q b H1 := by
  obtain ⟨p, ok, h⟩ := h
  refine ⟨p, ok, (fin.bind h).imp (fun x S1 D1 H1 w s k1 v r => ?_) fun _ _ _ _ _ _ z => z⟩
  obtain ⟨t, e, h5⟩ := toB_inv k1
  cases e
  cases r
  exact ⟨t, rfl, h5 D1 H1 w (.refl _)⟩
theorem g_has {kr : Nat} (hr : Room kr X.A) (hN : X.N[i]? = some x) (he : GE X cm W e f) (hv : Vis X.env.scope x := by first | exact Or.inl rfl | exact Or.inr (Or.inl rfl) | exact Or.inr (Or.inr rfl)) (hd : (x == ("__debug__" : Str)) = false := by decide) (hcd : (x == ("__classdict__" : Str)) = false := by decide) (hm : behindInMarks .In (.Name x px) = false := by rfl) : GE X cm W (.Compare e [.In] [.Name x px] pos) (eHas i f) :=
  pe_imp (pe_cmp (pc_din (by have := hr.un; omega) he (pe_var hN hv hd hcd)) hm) fun σ H Q h => has_red (k := id) h
theorem g_hasN {kr : Nat} (hr : Room kr X.A) (hN : X.N[i]? = some x) (he : GE X cm W e f) (hv : Vis X.env.scope x := by first | exact Or.inl rfl | exact Or.inr (Or.inl rfl) | exact Or.inr (Or.inr rfl)) (hd : (x == ("__debug__" : Str)) = false := by decide) (hcd : (x == ("__classdict__" : Str)) = false := by decide) (hm : behindInMarks .NotIn (.Name x px) = false := by rfl) : GE X cm W (.Compare e [.NotIn] [.Name x px] pos) (eHasN i f) :=
  pe_imp (pe_cmp (pc_dnotin (by have := hr.un; omega) he (pe_var hN hv hd hcd)) hm) fun σ H Q h => has_red (k := not) h
theorem gt_has {kr : Nat} (hr : Room kr X.A) (hN : X.N[i]? = some x) (he : GE X cm W e f) (hv : Vis X.env.scope x := by first | exact Or.inl rfl | exact Or.inr (Or.inl rfl) | exact Or.inr (Or.inr rfl)) (hd : (x == ("__debug__" : Str)) = false := by decide) (hcd : (x == ("__classdict__" : Str)) = false := by decide) (hm : behindInMarks .In (.Name x px) = false := by rfl) : GT X cm W (.Compare e [.In] [.Name x px] pos) (eTest (eHas i f)) :=
  pt_imp (pt_cmp (pc_din (by have := hr.un; omega) he (pe_var hN hv hd hcd)) hm) fun σ H Q h => has_red (k := id) (has_redT h)
theorem gt_hasN {kr : Nat} (hr : Room kr X.A) (hN : X.N[i]? = some x) (he : GE X cm W e f) (hv : Vis X.env.scope x := by first | exact Or.inl rfl | exact Or.inr (Or.inl rfl) | exact Or.inr (Or.inr rfl)) (hd : (x == ("__debug__" : Str)) = false := by decide) (hcd : (x == ("__classdict__" : Str)) = false := by decide) (hm : behindInMarks .NotIn (.Name x px) = false := by rfl) : GT X cm W (.Compare e [.NotIn] [.Name x px] pos) (eTest (eHasN i f)) :=
  pt_imp (pt_cmp (pc_dnotin (by have := hr.un; omega) he (pe_var hN hv hd hcd)) hm) fun σ H Q h => has_red (k := not) (has_redT h)
end
end Sm

set_option maxHeartbeats 4000000
namespace Sm
open PySem PySem.Spec PyProof.Rows L2 Lf

/-! ## objects that are new -/
def Fresh (cm : CM) (D : Hp) (o : HO) : Vl → Prop
  | .o ds => ∃ xs, o = .lst xs ∧ DvA cm D xs ds
  | .m t ps => MapH cm D t o ps
  | _ => False
def tN (cm : CM) (W : WX) (f : Ex) : TE := fun σ H Q => ∃ p : Pk, p.Ok cm σ H ∧ p.fin cm (f p.ρ p.S) (fun x _ D' H' => ∀ a o, H' a = none → Fresh cm D' o x → Q (.ref a) (upd H' a o)) (erW cm W σ)
abbrev GN (X : Cx) (cm : CM) (W : WX) (e : Expr) (f : Ex) : Prop := PE X e (tN cm W f)
def mkOwn (xs : List Vl) : M Vl := fun S => match datas xs with
  | some ds => if ds.length ≤ big then .ok (.o ds) S else .no
  | none => .no
def ownOf (xs : List Vl) : M Vl := fun S => match views S xs with
  | some [.list ds] => .ok (.o ds) S
  | some [.tuple ds] => .ok (.o ds) S
  | _ => .no
def eMap (t : Bool) : Ex := fun _ S => .ok (.m t []) S
/-- x = e, e new -/
def sNew (i : Nat) (e : Ex) : Sx := fun ρ S => sE (e ρ S) ρ fun x S1 => if notO x then none else some (.nx, ρ.set i (some x), S1)
/-- x, y = e, f, both new -/
def sNew2 (i j : Nat) (e f : Ex) : Sx := fun ρ S => sE (e ρ S) ρ fun x S1 => sE (f ρ S1) ρ fun y S2 => if notO x || notO y then none else some (.nx, (ρ.set i (some x)).set j (some y), S2)
theorem fresh_vr {cm : CM} {A : List Addr} {D : Hp} {Ow : List (Addr × HO)} {a : Addr} {o : HO} {x : Vl} (h : Fresh cm D o x) : VR cm A D ((a, o) :: Ow) x (.ref a) := by
  cases x with
  | d _ => cases h
  | c _ => cases h
  | o ds => obtain ⟨xs, rfl, h⟩ := h; exact ⟨a, xs, rfl, List.mem_cons_self, h⟩
  | m t ps => exact ⟨a, o, rfl, List.mem_cons_self, h⟩
theorem Fresh.mono {cm : CM} {D D' : Hp} (s : Same D D') {o : HO} {x : Vl} (h : Fresh cm D o x) : Fresh cm D' o x := by
  cases x with
  | d _ => cases h
  | c _ => cases h
  | o ds => obtain ⟨xs, rfl, h⟩ := h; exact ⟨xs, rfl, h.mono s⟩
  | m t ps => exact MapH.mono s h
section
variable {X : Cx} {cm : CM} {W : WX} {pos cpos pos' px py pt : Pos} {e e' : Expr} {es : List Expr} {f g : Ex} {fs : Exs} {x y : Str} {i j : Nat}
theorem gn_lst (h : GA X cm W es fs) : GN X cm W (.List es pos) (eArgs mkOwn fs) :=
  pe_imp (pe_lst h) fun σ H Q ⟨p, ok, h⟩ => ⟨p, ok, (fin.bind h).imp (fun xs S1 D1 H1 w s k vs r1 => by
    unfold mkOwn at k
    split at k
    · rename_i ds ed
      split at k
      · rename_i hl
        have hd := datas_dv ed r1
        refine ⟨by rw [hd.length]; exact Nat.le_of_lt (big_le hl), fun q nq => ?_⟩
        exact k D1 H1 w (.refl _) q _ nq ⟨vs, rfl, hd⟩
      · exact absurd k id
    · exact absurd k id) fun _ _ _ _ _ _ z => z⟩
theorem gn_map (t : Bool) : GN X cm W (.Dict [] [] pos) (eMap t) := by
  cases t with
  | false => exact pe_imp pe_dnewK fun σ H Q ⟨p, ok, h⟩ a na => h p.D H ok.wd (.refl _) a _ na ⟨[], rfl, List.nodup_nil, .nil⟩
  | true => exact pe_imp pe_dnewT fun σ H Q ⟨p, ok, h⟩ a na => h p.D H ok.wd (.refl _) a _ na ⟨[], rfl, List.nodup_nil, .nil⟩
theorem gn_list (hm : X.mg "list" = none) (ha : GA X cm W [e] fs) (hg : Gl X "list" := by rfl) (he : starEach [e] X.env = (false, eval e X.env) :: starEach [] X.env := by rfl) (hpl : (backTo pos (starEach [] X.env)).any (·.1) = false := by rfl) : GN X cm W (.Call (.Name "list" px) [e] [] pos) (eArgs ownOf fs) :=
  pe_imp (pe_callTy call_list_of hg hm (by decide +kernel) ha (by decide) (by decide) he hpl) fun σ H Q ⟨p, ok, h⟩ => ⟨p, ok, (fin.bind h).imp (fun xs S1 D1 H1 w s k vs r1 => by
    unfold ownOf at k
    split at k
    · rename_i ds ev
      obtain ⟨v, rfl, hv⟩ := dwA1 (views_dw w ev r1)
      obtain ⟨a, ys, rfl, h1, h2⟩ := Dw.seq (K := X.K) w.sub (.inl hv)
      exact ⟨a, ys, rfl, h1, fun l nl => k D1 H1 w (.refl _) l _ nl ⟨ys, rfl, h2⟩⟩
    · rename_i ds ev
      obtain ⟨v, rfl, hv⟩ := dwA1 (views_dw w ev r1)
      obtain ⟨a, ys, rfl, h1, h2⟩ := Dw.seq (K := X.K) w.sub (.inr hv)
      exact ⟨a, ys, rfl, h1, fun l nl => k D1 H1 w (.refl _) l _ nl ⟨ys, rfl, h2⟩⟩
    · exact absurd k id) fun _ _ _ _ _ _ z => z⟩
theorem gs_new (hN : X.N.Nodup) (hi : X.N[i]? = some x) (hx : Loc X.env.scope x) (he : GN X cm W e f) (hs : swapsWith e (some (.Name x pos')) pos.line X.env = pure false := by rfl) (hf : X.fn x = true ∨ X.env.scope.names.lookup x = some .local := by first | exact .inl rfl | exact .inr rfl | assumption) :
    GS X cm W (.Assign [.Name x pos'] e pos) (sNew i f) :=
  ps_imp (ps_set hN hi hx he hs hf) fun Ds σ H ⟨p, ok, h⟩ => ⟨p, ok, finE (W := W) (okQ := fun x S1 D1 H1 => ∀ a o, H1 a = none → Fresh cm D1 o x → Ds.nx (σ.set i (some (.ref a))) (upd H1 a o)) ok h (fun x S1 D1 H1 _ ok1 s k a o na fr => by
    split at k
    · exact absurd k id
    · exact k D1 ((a, o) :: p.Ow) _ _ ⟨ok1.wd.newF na _, ok1.er.ownG ok1.wd na (fresh_vr fr)⟩ (.refl _)) fun e S1 D1 H1 z => z⟩
theorem gs_new2 {kt k2 pt2} (hc : X.calm = true) (hN : X.N.Nodup) (hi : X.N[i]? = some x) (hj : X.N[j]? = some y) (hij : i ≠ j)
    (hx : X.env.scope.names.lookup x = some .local) (hy : X.env.scope.names.lookup y = some .local) (ha : GN X cm W e f) (hb : GN X cm W e' g) (hsa : starEach [e, e'] X.env = (false, eval e X.env) :: starEach [e'] X.env) (hsb : starEach [e'] X.env = (false, eval e' X.env) :: starEach [] X.env)
    (hw : swappedStores [.Tuple [.Name x px, .Name y py] kt pt] (.Tuple [e, e'] k2 pt2) X.env = pure (some [x, y]))
    (hs : swapsWithSole [.Tuple [.Name x px, .Name y py] kt pt] (.Tuple [e, e'] k2 pt2) pos.line X.env = pure false := by rfl) :
    GS X cm W (.Assign [.Tuple [.Name x px, .Name y py] kt pt] (.Tuple [e, e'] k2 pt2) pos) (sNew2 i j f g) :=
  ps_imp (ps_par hc hN hi hj hij hx hy (pa_cons ha (pa_cons hb pa_nil hsb) hsa) hw hs) fun Ds σ H ⟨p, ok, h⟩ => by
    refine ⟨p, ok, finE (W := W) (okQ := fun x S1 D1 H1 => ∀ a o, H1 a = none → Fresh cm D1 o x → tCons (tN cm W g) tNil σ (upd H1 a o) fun vs H2 => ∃ v' w', V.ref a :: vs = [v', w'] ∧ Ds.nx ((σ.set i (some v')).set j (some w')) H2) ok h (fun x S1 D1 H1 _ ok1 s k a o na fr => ?_) fun e S1 D1 H1 z => z⟩
    have wn := ok1.wd.newF na o
    have ok2 : Pk.Ok cm ⟨p.A, S1, D1, (a, o) :: p.Ow, p.Fr, p.ρ⟩ σ (upd H1 a o) := by
      refine ⟨wn, ok1.er.len, fun n z e1 => ?_, ok1.er.ne⟩
      obtain ⟨v, h1, h2⟩ := ok1.er.at' n z e1
      exact ⟨v, h1, h2.ow fun q hq => List.mem_cons_of_mem _ hq⟩
    refine ⟨_, ok2, finE (p := ⟨p.A, S1, D1, (a, o) :: p.Ow, p.Fr, p.ρ⟩) (W := W) (okQ := fun y S2 D2 H2 => ∀ b o', H2 b = none → Fresh cm D2 o' y → Ds.nx ((σ.set i (some (.ref a))).set j (some (.ref b))) (upd H2 b o')) ok2 (finS.on k rfl rfl (.refl _)) (fun y S2 D2 H2 _ ok3 s2 k2 b o' nb fr2 => ?_) (fun e S1 D1 H1 z => z) |>.imp (fun y S2 D2 H2 w2 s2 k2 b o' nb fr2 => ⟨.ref a, .ref b, rfl, k2 b o' nb fr2⟩) fun _ _ _ _ _ _ z => z⟩
    split at k2
    · exact absurd k2 id
    · have e0 : Er cm p.A D2 ((a, o) :: p.Ow) (p.ρ.set i (some x)) (σ.set i (some (.ref a))) := (ok1.er.ownG ok1.wd na (fresh_vr fr)).mono s2
      have e1 : Er cm p.A D2 ((b, o') :: (a, o) :: p.Ow) ((p.ρ.set i (some x)).set j (some y)) ((σ.set i (some (.ref a))).set j (some (.ref b))) := e0.ownG ok3.wd nb (fresh_vr fr2)
      exact k2 D2 ((b, o') :: (a, o) :: p.Ow) _ _ ⟨ok3.wd.newF nb _, e1⟩ (.refl _)
/-- x.append(y.pop(k)) -/
def sAppPop (i j : Nat) (fk : Ex) : Sx := fun ρ S => match ρ[i]?, ρ[j]? with
  | some (some (.o ds)), some (some (.o _)) => sE (fk ρ S) ρ fun z S1 => match z with
    | .d (.int r) => match ρ[j]? with
      | some (some (.o es)) => match ixN es.length r with
        | some n => match es[n]? with
          | some y => if ds.length ≤ big ∧ es.length ≤ big then some (.nx, (ρ.set j (some (.o (es.eraseIdx n)))).set i (some (.o (ds ++ [y]))), S1) else none
          | none => none
        | none => none
      | _ => none
    | _ => none
  | _, _ => none
theorem DvA.erase {cm : CM} {H : Hp} : ∀ {ds : List PyData} {vs : List V} (n : Nat), DvA cm H vs ds → DvA cm H (vs.eraseIdx n) (ds.eraseIdx n)
  | [], _, n, h => by cases h; exact .nil
  | _ :: _, _, 0, h => by
    cases h with
    | cons h1 h2 => exact h2
  | _ :: _, _, n + 1, h => by
    cases h with
    | cons h1 h2 => exact .cons h1 (DvA.erase n h2)
theorem gs_apppop {apos2 cpos2 py2 : Pos} {ek : Expr} {fk : Ex} (hij : i ≠ j) (hN : X.N[i]? = some x) (hv : Vis X.env.scope x) (hN2 : X.N[j]? = some y) (hv2 : Vis X.env.scope y) (hd : (x == ("__debug__" : Str)) = false) (hcd : (x == ("__classdict__" : Str)) = false) (hd2 : (y == ("__debug__" : Str)) = false) (hcd2 : (y == ("__classdict__" : Str)) = false) (hk : GE X cm W ek fk)
    {apos : Pos}
    (hbase : attributeBase (.Name x px) "append" X.env (eval (.Name x px) X.env) = eval (.Name x px) X.env := by rfl)
    (hbase2 : attributeBase (.Name y py2) "pop" X.env (eval (.Name y py2) X.env) = eval (.Name y py2) X.env := by rfl)
    (hfew : ((backTo cpos (starEach [Expr.Call (.Attribute (.Name y py2) "pop" apos2) [ek] [] cpos2] X.env)).all (fun x => !x.1) && (backToKw cpos (keywordEach [] X.env)).all (fun x => x.1.isSome) && decide (([Expr.Call (.Attribute (.Name y py2) "pop" apos2) [ek] [] cpos2] : List Expr).length + ([] : List Keyword).length + (if ([] : List Keyword).isEmpty then 0 else 1) < 30)) = true := by rfl)
    (hfew2 : ((backTo cpos2 (starEach [ek] X.env)).all (fun x => !x.1) && (backToKw cpos2 (keywordEach [] X.env)).all (fun x => x.1.isSome) && decide (([ek] : List Expr).length + ([] : List Keyword).length + (if ([] : List Keyword).isEmpty then 0 else 1) < 30)) = true := by rfl)
    (hline : (apos.endLine == cpos.line) = true := by rfl) (hline2 : (apos2.endLine == cpos2.line) = true := by rfl)
    (hs : starEach [Expr.Call (.Attribute (.Name y py2) "pop" apos2) [ek] [] cpos2] X.env = (false, eval (Expr.Call (.Attribute (.Name y py2) "pop" apos2) [ek] [] cpos2) X.env) :: starEach [] X.env := by rfl) (hs2 : starEach [ek] X.env = (false, eval ek X.env) :: starEach [] X.env := by rfl)
    (hplain : (backTo cpos (starEach [] X.env)).any (·.1) = false := by rfl) (hplain2 : (backTo cpos2 (starEach [] X.env)).any (·.1) = false := by rfl)
    (hsw : swapsWith (.Call (.Attribute (.Name x px) "append" apos) [Expr.Call (.Attribute (.Name y py2) "pop" apos2) [ek] [] cpos2] [] cpos) none pos.line X.env = pure false := by rfl) :
    GS X cm W (.Expr (.Call (.Attribute (.Name x px) "append" apos) [Expr.Call (.Attribute (.Name y py2) "pop" apos2) [ek] [] cpos2] [] cpos) pos) (sAppPop i j fk) :=
  ps_imp (ps_expr (pe_bm PySem.F.plainAttrs_list PySem.F.slot_list_append PySem.F.type_list_append mt_append (pe_var hN hv hd hcd) (pa_cons (pe_bm PySem.F.plainAttrs_list PySem.F.slot_list_pop PySem.F.type_list_pop mt_popAt (pe_var hN2 hv2 hd2 hcd2) (pa_cons hk pa_nil hs2) hbase2 hfew2 hline2 hs2 hplain2) pa_nil hs) hbase hfew hline hs hplain) hsw) fun Ds σ H ⟨p, ok, h⟩ => by
    unfold sAppPop at h
    split at h
    · rename_i ds es0 ei ej
      obtain ⟨v, h1, a, xs, rfl, hm, hd⟩ := ok.er.at' i _ ei
      obtain ⟨v2, h2, a2, ys, rfl, hm2, hd2⟩ := ok.er.at' j _ ej
      have hne : a2 ≠ a := fun z => ok.er.ne i j a hij (by rw [ei]; rfl) (by rw [ej]; rfl) h1 (by rw [h2, z])
      refine ⟨.ref a, h1, .inl ⟨rfl, xs, .of (ok.wd.frs _ (List.mem_append_left _ hm)).1⟩, .ref a2, h2, .inl ⟨rfl, ys, .of (ok.wd.frs _ (List.mem_append_left _ hm2)).1⟩, p, ok, finE (W := W) (okQ := fun y S1 D1 H1 => ∀ u, VR cm p.A D1 p.Ow y u → rPopAt (.ref a2) [u] H1 fun t H2 => rAppend (.ref a) [t] H2 (fun _ H3 => Ds.nx σ H3)) ok h (fun z S1 D1 H1 _ ok1 s k u r => ?_) fun e S1 D1 H1 z => z⟩
      split at k
      · rename_i ri _
        cases r
        rw [ej] at k
        dsimp only at k
        split at k
        · rename_i n en
          split at k
          · rename_i yd ey
            split at k
            · rename_i hl
              obtain ⟨g1, g2, g3, g4⟩ := ixN_seq en
              have hdj : DvA cm D1 ys es0 := hd2.mono s
              obtain ⟨yv, ev, hyv⟩ := hdj.get' ey
              have hlen := hdj.length
              refine ⟨a2, ys, ri, n, yv, rfl, rfl, ?_⟩
              -- the list that is popped
              obtain ⟨O1, O2, eO⟩ := List.append_of_mem hm2
              have w1 := ok1.wd
              have e1 := ok1.er
              dsimp only at w1 e1
              rw [eO] at w1 e1
              have w1' : Wd cm p.A S1 D1 (O1 ++ (a2, .lst ys) :: (O2 ++ p.Fr)) H1 := by rw [List.append_assoc, List.cons_append] at w1; exact w1
              have w2 := w1'.up (.lst (ys.eraseIdx n))
              have e2 : Er cm p.A D1 (O1 ++ (a2, .lst (ys.eraseIdx n)) :: O2) (p.ρ.set j (some (.o (es0.eraseIdx n)))) σ := e1.upO w1 (isOwn_of ej) h2 (hdj.erase n)
              have hb : es0.length ≤ 1000000 := hl.2
              refine ⟨w1'.at_.1, by omega, by omega, by rw [hlen]; exact g1, ev, ?_⟩
              -- the list that grows
              have hma : (a, HO.lst xs) ∈ O1 ++ (a2, .lst (ys.eraseIdx n)) :: O2 := by
                have : (a, HO.lst xs) ∈ O1 ++ (a2, .lst ys) :: O2 := by rw [← eO]; exact hm
                rcases List.mem_append.mp this with z | z
                · exact List.mem_append_left _ z
                · rcases List.mem_cons.mp z with z | z
                  · cases z; exact absurd rfl hne
                  · exact List.mem_append_right _ (List.mem_cons_of_mem _ z)
              obtain ⟨P1, P2, eP⟩ := List.append_of_mem hma
              have w3 : Wd cm p.A S1 D1 ((P1 ++ (a, .lst xs) :: P2) ++ p.Fr) (upd H1 a2 (.lst (ys.eraseIdx n))) := by
                rw [← eP, List.append_assoc, List.cons_append]
                exact w2
              rw [eP] at e2
              have w3' : Wd cm p.A S1 D1 (P1 ++ (a, .lst xs) :: (P2 ++ p.Fr)) (upd H1 a2 (.lst (ys.eraseIdx n))) := by rw [List.append_assoc, List.cons_append] at w3; exact w3
              have w4 := w3'.up (.lst (xs ++ [yv]))
              have hdi : DvA cm D1 (xs ++ [yv]) (ds ++ [yd]) := (hd.mono s).append (.cons hyv .nil)
              have ei' : (p.ρ.set j (some (.o (es0.eraseIdx n))))[i]? = some (some (.o ds)) := by rw [List.getElem?_set_ne (Ne.symm hij)]; exact ei
              refine ⟨a, xs, yv, rfl, rfl, w3'.at_.1, by rw [(hd.mono s : DvA cm D1 xs ds).length]; exact big_le hl.1, ?_⟩
              refine k D1 (P1 ++ (a, .lst (xs ++ [yv])) :: P2) σ _ ⟨?_, e2.upO w3 (isOwn_of ei') h1 hdi⟩ (.refl _)
              show Wd cm p.A S1 D1 ((P1 ++ (a, .lst (xs ++ [yv])) :: P2) ++ p.Fr) _
              rw [List.append_assoc, List.cons_append]
              exact w4
            · exact absurd k id
          · exact absurd k id
        · exact absurd k id
      · exact absurd k id
    · exact absurd h id
end
end Sm

set_option maxHeartbeats 4000000
namespace Lf
open PySem PySem.Spec PyProof.Rows L2
mutual
theorem reads_mono {h h' : Heap} (k : ∀ b o, h.get? b = some o → h'.get? b = some o) : ∀ {v : Value} {d : PyData} {as : List Addr}, PySem.Reads h v d as → PySem.Reads h' v d as
  | _, _, _, .none => .none
  | _, _, _, .bool b => .bool b
  | _, _, _, .int i t => .int i t
  | _, _, _, .str x t => .str x t
  | _, _, _, .list a b c r => .list (k _ _ a) b c (readsAll_mono k r)
  | _, _, _, .tuple a b c r => .tuple (k _ _ a) b c (readsAll_mono k r)
  | _, _, _, .dict a b c r r' => .dict (k _ _ a) b c (readsAll_mono k r) (readsAll_mono k r')
theorem readsAll_mono {h h' : Heap} (k : ∀ b o, h.get? b = some o → h'.get? b = some o) : ∀ {vs : List Value} {ds : List PyData} {as : List Addr}, PySem.ReadsAll h vs ds as → PySem.ReadsAll h' vs ds as
  | _, _, _, .nil => .nil
  | _, _, _, .cons a b => .cons (reads_mono k a) (readsAll_mono k b)
end
theorem eachIs_self {α : Type} {R : α → α → Prop} : ∀ {l : List α}, (∀ x ∈ l, R x x) → PySem.W.EachIs R l l
  | [], _ => .nil
  | x :: l, h => .cons (h x List.mem_cons_self) (eachIs_self fun y hy => h y (List.mem_cons_of_mem _ hy))
theorem eachIs_eq {α : Type} : ∀ {l m : List α}, PySem.W.EachIs (fun a b => a = b) l m → l = m
  | _, _, .nil => rfl
  | _, _, .cons a b => by rw [a, eachIs_eq b]
theorem dataLe_total {β : Type} (enc : β → PyData) : PySem.W.TotalLe (PySem.W.dataLe false enc) := PySem.W.sortLe_total _ _ _
/-- sorted(set) of data -/
theorem sorted_set_raw {P : Program} {w : World} {A : Around} {E : Value → Shared → Prop} {s : Shared} {a : Addr} {es : Array (Int × Value)} {ep : Nat} {t : SetTable} {Q : Value → Shared → Prop}
    (hA : A.handled = none) (hat : L2.SetAt s.heap a es ep t) (fit : t.fits es.size = true) (few : es.size < scanBound) (ris : Ris t.place.toList)
    (led : w.params.followText "set-order" = true ∨ t.led = true) (enc : Value → PyData) (rd : ∀ v ∈ es.toList.map (·.2), PySem.Reads s.heap v (enc v) [])
    (al : PySem.W.AllAlike ((es.toList.map (·.2)).map enc)) (so : PySem.W.Sortable ((es.toList.map (·.2)).map enc)) (hd : ∀ v ∈ es.toList.map (·.2), A.units + 3 + (enc v).depth < cLine)
    (q : ∀ (s' : Shared) (p : Nat) (out : List Value) (c : Nat), (∀ b o, s.heap.get? b = some o → s'.heap.get? b = some o) → s'.gens = s.gens → s'.os = s.os → s.heap.objs.size ≤ p →
      s'.heap.get? p = some (PyProof.Rows.seqObj "list" out.toArray c) → out.Perm (es.toList.map (·.2)) → out.Pairwise (fun u v => PySem.W.dataLe false enc u v = true) → Q (.ref p) s') :
    wpAny (model P w) A (call (.builtin "sorted") [.ref a]) Q E s := by
  refine Calls.call_function_entry PyProof.Rows.kind_sorted PyProof.Rows.plain_sorted PyProof.Rows.entry_sorted (PyProof.Rows.args_sorted1 _) ?_
  unfold Builtin.sorted
  dsimp only
  refine wpAny_bind ?_
  unfold checkCount
  refine wpAny_ite_false rfl (wpAny_ite_false rfl (wpAny_ite_false rfl (wpAny_pure ?_)))
  refine wpAny_bind (collect_set (A := A.in1) hA hat fit few ris led fun s' out old sz g o p => ?_)
  have lo : out.length = es.size := by rw [p.length_eq, List.length_map, Array.length_toList]
  have sl : out.length ≤ sizeLine := by
    rw [lo, sizeLine_eq]
    have : scanBound = 4096 := rfl
    omega
  refine wpAny_bind (wpAny_newList ?_ sl)
  have hp : (s'.heap.push { cls := Value.type "list", data := Data.seq out.toArray }).get? s'.heap.objs.size = some (PyProof.Rows.seqObj "list" out.toArray 0) := Heap.get?_push_size _ rfl
  refine wpAny_bind (wpAny_holding (PySem.W.list_sort_data (bs := out) (enc := enc) (R := fun u b => u = b) hp (eachIs_self fun _ _ => rfl) (eachIs_self fun v hv => ⟨[], ?_, by simp⟩) ?_ ?_ sl ?_ fun o' lo' eo => ?_))
  · exact reads_mono (fun b u hb => Heap.get?_push_of_some _ (old b u hb)) (rd v (p.mem_iff.mp hv))
  · intro d hd1 d' hd2
    obtain ⟨v, hv, rfl⟩ := List.mem_map.mp hd1
    obtain ⟨v', hv', rfl⟩ := List.mem_map.mp hd2
    exact al _ (List.mem_map_of_mem (p.mem_iff.mp hv)) _ (List.mem_map_of_mem (p.mem_iff.mp hv'))
  · rcases so with so | so
    · left
      intro d hd1
      obtain ⟨v, hv, rfl⟩ := List.mem_map.mp hd1
      exact so _ (List.mem_map_of_mem (p.mem_iff.mp hv))
    · right
      intro d hd1
      obtain ⟨v, hv, rfl⟩ := List.mem_map.mp hd1
      exact so _ (List.mem_map_of_mem (p.mem_iff.mp hv))
  · intro v hv
    have := hd v (p.mem_iff.mp hv)
    have e : A.in1.units ≤ A.units + 1 := Nat.le_refl _
    omega
  · have eo' := eachIs_eq eo
    obtain ⟨e, he⟩ := PyProof.Rows.sortedHeap_at (out := o'.toArray) hp
    refine wpAny_pure ⟨_, rfl, q _ _ o' e (fun b u hb => ?_) g o sz he ?_ ?_⟩
    · have hb' := old b u hb
      have lb : b < s'.heap.objs.size := Heap.lt_size hb'
      show (PyProof.Rows.sortedHeap _ _ _ _).get? b = _
      rw [PyProof.Rows.sortedHeap_old (Nat.ne_of_lt lb) (by rw [Heap.size_push]; exact Nat.lt_succ_of_lt lb)]
      exact Heap.get?_push_of_some _ hb'
    · rw [eo']
      exact (List.mergeSort_perm _ _).trans p
    · rw [eo']
      exact PySem.W.sort_pairwise (dataLe_total enc) out
theorem inv_drawn {X : Cx} {pins : List (Addr × Obj)} {σ : L2.St} {H : Hp} {s s' : Shared} (I : L2.Inv X pins σ H s) (e : s'.heap = s.heap) (g : s'.gens = s.gens) (o : s'.os = s.os) : L2.Inv X pins σ H s' :=
  ⟨I.ok, o.trans I.os, g ▸ I.bare, e ▸ I.base, e ▸ I.loc, e ▸ I.cell, I.free, I.freeC, e ▸ I.pin, e ▸ I.hok, I.len⟩
/-- what is laid behind a call that also drew -/
theorem inv_laid {X : Cx} {pins : List (Addr × Obj)} {σ : L2.St} {H : Hp} {s s' : Shared} {a : Addr} {o : HO} (I : L2.Inv X pins σ H s) (old : ∀ b u, s.heap.get? b = some u → s'.heap.get? b = some u)
    (g : s'.gens = s.gens) (os : s'.os = s.os) (sz : s.heap.objs.size ≤ a) (k : ObjOk X.prog X.w (upd H a o) s'.heap a o) : L2.Inv X pins σ (upd H a o) s' :=
  inv_drawn (s := { heap := s'.heap, gens := s.gens, drawn := s.drawn, toks := s'.toks, os := s.os }) (I.laid old sz k) rfl g os
section
variable {X : Cx}
def encS (v : Value) : PyData := match v with | .str x _ => .str x | _ => .none
def ltS (x y : Str) : Bool := PySem.W.dataLt (.str x) (.str y)
def rSortedSt (w : World) : List V → Hp → VK → Prop := fun vs H Q => ∃ (a : Addr) (ts : List Str), vs = [V.ref a] ∧ H a = some (SetSO w a ts) ∧
  ∀ (ys : List Str) (p : Addr), ys.Perm ts → ys.Pairwise (fun x y => ltS y x = false) → H p = none → Q (.ref p) (upd H p (.lst (ys.map V.str)))
theorem strs_of : ∀ {out : List Value}, (∀ v ∈ out, ∃ x tk, v = Value.str x tk) → Vals ((out.map fun v => keyS (0, v)).map V.str) out
  | [], _ => .nil
  | v :: out, h => by
    obtain ⟨x, tk, rfl⟩ := h _ List.mem_cons_self
    exact .cons ⟨tk, rfl⟩ (strs_of fun v hv => h v (List.mem_cons_of_mem _ hv))
theorem cr_sortedSt (hc : X.calm = true) (hu : X.A.units + 64 < cLine) : CallR X (.builtin "sorted") (rSortedSt X.w) := by
  intro pins s σ H vs us Q I r h
  obtain ⟨a, ts, rfl, ha, q⟩ := h
  obtain ⟨u, rfl, ru⟩ := vals1 r
  obtain rfl : u = Value.ref a := ru
  obtain ⟨o, es, ep, t, ho, hx, hd, g⟩ := (setS_get I ha).ex
  have isS : ∀ v ∈ es.toList.map (·.2), ∃ x tk, v = Value.str x tk := fun v hv => by
    obtain ⟨e, he, rfl⟩ := List.mem_map.mp hv
    obtain ⟨x, tk, e1, _⟩ := (g.good e he).ex
    exact ⟨x, tk, e1⟩
  refine sorted_set_raw (I.ok.hd hc) ⟨o, ho, hx.1, hd⟩ g.fit (by rw [g.size]; exact g.few) g.ris g.led encS ?_ ?_ ?_ ?_ fun s' p out c old gg oo sz hp pm pw => ?_
  · intro v hv
    obtain ⟨x, tk, rfl⟩ := isS v hv
    exact .str x tk
  · intro d hd1 d' hd2
    obtain ⟨v, hv, rfl⟩ := List.mem_map.mp hd1
    obtain ⟨v', hv', rfl⟩ := List.mem_map.mp hd2
    obtain ⟨x, tk, rfl⟩ := isS v hv
    obtain ⟨x', tk', rfl⟩ := isS v' hv'
    rfl
  · right
    intro d hd1
    obtain ⟨v, hv, rfl⟩ := List.mem_map.mp hd1
    obtain ⟨x, tk, rfl⟩ := isS v hv
    exact ⟨fun z => (by cases z), fun xs z => (by cases z)⟩
  · intro v hv
    obtain ⟨x, tk, rfl⟩ := isS v hv
    have : (encS (.str x tk)).depth = 0 := rfl
    omega
  · have isO : ∀ v ∈ out, ∃ x tk, v = Value.str x tk := fun v hv => isS v (pm.mem_iff.mp hv)
    have hv := strs_of isO
    have pk : (out.map fun v => keyS (0, v)).Perm ts := by
      refine ((pm.map fun v => keyS (0, v)).trans ?_).trans g.keys
      rw [List.map_map]
      exact List.Perm.of_eq (List.map_congr_left fun e _ => rfl)
    refine ⟨.ref p, upd H p (.lst ((out.map fun v => keyS (0, v)).map V.str)), inv_laid I old gg oo sz ⟨?_, out, c, hv, hp⟩, rfl, q _ p pk ?_ (I.hok.fresh sz)⟩
    · rw [List.length_map, pk.length_eq, sizeLine_eq]
      have h1 := g.few
      have : scanBound = 4096 := rfl
      omega
    · rw [List.pairwise_map]
      refine List.Pairwise.imp_of_mem (fun {u v} hu hv le => ?_) pw
      obtain ⟨x, tk, rfl⟩ := isO u hu
      obtain ⟨y, tk', rfl⟩ := isO v hv
      rw [PySem.W.dataLe_eq] at le
      show PySem.W.dataLt (.str y) (.str x) = false
      have z : (!PySem.W.dataLt (.str y) (.str x)) = true := le
      simpa using z
/-! `in`, `not in` -/
theorem SetS.setOf {P : Program} {w : World} {h : Heap} {a : Addr} {l : List Str} (g : SetS w h a l) : Heap.SetOf (PySem.strKind P w) h a (fun k => decide (k ∈ l)) l.length := by
  obtain ⟨o, es, ep, t, ho, hx, hd, g⟩ := g.ex
  refine ⟨o, es, ep, t, ho, hx, hd, good_elemsS g.good, fun k => ?_, by rw [g.size]; exact g.few, g.fit, g.size⟩
  rw [decide_eq_true_eq, ← g.keys.mem_iff, List.mem_map]
  constructor
  · rintro ⟨e, he, hk⟩
    exact ⟨e, he, ((g.good e he).is k).mpr hk⟩
  · rintro ⟨e, he, hk⟩
    exact ⟨e, he, ((g.good e he).is (P := P) k).mp hk⟩
def rSInS (w : World) (neg : Bool) : V → V → Hp → VK → Prop := fun x y H Q => ∃ (k : Str) (a : Addr) (l : List Str), x = .str k ∧ y = V.ref a ∧ H a = some (SetSO w a l) ∧ Q (.bl (if neg then !decide (k ∈ l) else decide (k ∈ l))) H
theorem or_sinS : OpR X (compareOp .In) (rSInS X.w false) := by
  intro pins s σ H x y v u Q I rx ry h
  obtain ⟨k, a, l, rfl, rfl, ha, q⟩ := h
  obtain ⟨tk, rfl⟩ := rx
  obtain rfl : u = Value.ref a := ry
  exact wpAny_inSet_of (knd := PySem.strKind X.prog X.w) (isS k tk) rfl (setS_get I ha).setOf ⟨.bl _, H, inv_drawn I rfl rfl rfl, rfl, q⟩
theorem or_snotinS : OpR X (compareOp .NotIn) (rSInS X.w true) := by
  intro pins s σ H x y v u Q I rx ry h
  obtain ⟨k, a, l, rfl, rfl, ha, q⟩ := h
  obtain ⟨tk, rfl⟩ := rx
  obtain rfl : u = Value.ref a := ry
  exact wpAny_notInSet_of (knd := PySem.strKind X.prog X.w) (isS k tk) rfl (setS_get I ha).setOf ⟨.bl _, H, inv_drawn I rfl rfl rfl, rfl, q⟩
end
end Lf

set_option maxHeartbeats 4000000
namespace Lf
open PySem PySem.Spec PyProof.Rows L2
/-! ## texts and tuples of such, at any depth, as keys -/
mutual
inductive Kd (h : Heap) : Value → PyData → Prop
  | str (x : Str) (tk : Tok) : Kd h (.str x tk) (.str x)
  | tup {a : Addr} {o : Obj} {vs : Array Value} {n : Nat} {ds : List PyData} : h.get? a = some o → o.cls = .type "tuple" → o.data = Data.seq vs n → KdAll h vs.toList ds → Kd h (.ref a) (.tuple ds)
inductive KdAll (h : Heap) : List Value → List PyData → Prop
  | nil : KdAll h [] []
  | cons {v : Value} {vs : List Value} {d : PyData} {ds : List PyData} : Kd h v d → KdAll h vs ds → KdAll h (v :: vs) (d :: ds)
end
mutual
theorem Kd.mono {h h' : Heap} (k : ∀ b o, h.get? b = some o → o.cls = .type "tuple" → h'.get? b = some o) : ∀ {v : Value} {d : PyData}, Kd h v d → Kd h' v d
  | _, _, .str x tk => .str x tk
  | _, _, .tup a b c r => .tup (k _ _ a b) b c (KdAll.mono k r)
theorem KdAll.mono {h h' : Heap} (k : ∀ b o, h.get? b = some o → o.cls = .type "tuple" → h'.get? b = some o) : ∀ {vs : List Value} {ds : List PyData}, KdAll h vs ds → KdAll h' vs ds
  | _, _, .nil => .nil
  | _, _, .cons a b => .cons (Kd.mono k a) (KdAll.mono k b)
end
mutual
theorem Kd.reads {h : Heap} : ∀ {v : Value} {d : PyData}, Kd h v d → PySem.Reads h v d []
  | _, _, .str x tk => .str x tk
  | _, _, .tup a b c r => .tuple a b c (KdAll.reads r)
theorem KdAll.reads {h : Heap} : ∀ {vs : List Value} {ds : List PyData}, KdAll h vs ds → PySem.ReadsAll h vs ds []
  | _, _, .nil => .nil
  | _, _, .cons a b => .cons (as := []) (bs := []) (Kd.reads a) (KdAll.reads b)
end
mutual
def hashD (w : World) : PyData → Int
  | .str x => hashStr w x
  | .tuple ds => reduceHash (Builtin.Tuple.tupleHashOf (hashesD w ds))
  | _ => 0
def hashesD (w : World) : List PyData → List Int
  | [] => []
  | d :: ds => hashD w d :: hashesD w ds
end
mutual
theorem pyHash_key {P : Program} {w : World} : ∀ {v : Value} {d : PyData} {A : Around} {E : Value → Shared → Prop} {s : Shared} {Q : Int → Shared → Prop}, Kd s.heap v d → A.units + d.depth < cLine →
    (∀ tk, s.toks ≤ tk → Q (hashD w d) { heap := s.heap, gens := s.gens, drawn := s.drawn, toks := tk, os := s.os }) → wpAny (model P w) A (pyHash v) Q E s
  | _, .str x, A, E, s, Q, h, hu, q => by
    cases h with
    | str _ tk => exact wpAny_pyHash_str (by rw [hashD] at q; exact q _ (Nat.le_succ _))
  | _, .tuple ds, A, E, s, Q, h, hu, q => by
    cases h with
    | tup h1 h2 h3 h4 =>
      rw [PyData.depth] at hu
      refine PySem.W.pyHash_slot ⟨_, h1, h2⟩ F.slot_tuple_hash F.entry_tuple_hash (F.args_tuple_hash_1 _) rfl (.inr (by omega)) ?_
      unfold Builtin.«tuple.__hash__»
      dsimp only
      refine wpAny_bind (wpAny_pure ?_)
      dsimp only
      refine wpAny_bind (wpAny_tupleItemsOf h1 h3 ?_)
      rw [← Array.forIn_toList]
      refine wpAny_bind (pyHashes_key h4 (by show A.units + 1 + _ < _; omega) fun tk ht => ?_)
      dsimp only
      unfold retInt
      refine wpAny_mono (wpAny_ret_mkInt (Q := fun v s' => ∃ n t, v = Value.int n t ∧ Q (reduceHash n) s') ⟨_, _, rfl, ?_⟩) ?_ fun _ _ z => z
      · rw [hashD] at q
        simp only [List.nil_append]
        exact q _ (Nat.le_succ_of_le ht)
      · rintro fin s' ⟨v, rfl, n, t, rfl, z⟩
        exact ⟨n, t, rfl, z⟩
  | _, .none, A, E, s, Q, h, hu, q => by cases h
  | _, .bool _, A, E, s, Q, h, hu, q => by cases h
  | _, .int _, A, E, s, Q, h, hu, q => by cases h
  | _, .list _, A, E, s, Q, h, hu, q => by cases h
  | _, .dict _, A, E, s, Q, h, hu, q => by cases h
theorem pyHashes_key {P : Program} {w : World} : ∀ {vs : List Value} {ds : List PyData} {A : Around} {E : Value → Shared → Prop} {s : Shared} {hs : Array Int} {Q : Array Int → Shared → Prop}, KdAll s.heap vs ds → A.units + PyData.depthAll ds < cLine →
    (∀ tk, s.toks ≤ tk → Q (hs.toList ++ hashesD w ds).toArray { heap := s.heap, gens := s.gens, drawn := s.drawn, toks := tk, os := s.os }) →
    wpAny (model P w) A (forIn vs hs fun x hs => do
      let h ← pyHash x
      pure (ForInStep.yield (hs.push h))) Q E s
  | _, [], A, E, s, hs, Q, h, hu, q => by
    cases h
    rw [List.forIn_nil]
    refine wpAny_pure ?_
    have := q s.toks (Nat.le_refl _)
    simpa [hashesD] using this
  | _, d :: ds, A, E, s, hs, Q, h, hu, q => by
    cases h with
    | cons a b =>
      rw [PyData.depthAll] at hu
      rw [List.forIn_cons]
      refine wpAny_bind (wpAny_bind (pyHash_key a (by omega) fun tk ht => wpAny_pure ?_))
      dsimp only
      refine pyHashes_key (s := { heap := s.heap, gens := s.gens, drawn := s.drawn, toks := tk, os := s.os }) b (by omega) fun tk' ht' => ?_
      have := q tk' (Nat.le_trans ht ht')
      simpa [hashesD] using this
end
end Lf

set_option maxHeartbeats 4000000
namespace Lf
open PySem PySem.Spec PyProof.Rows L2
theorem hashBy_key {P : Program} {w : World} {E : Value → Shared → Prop} {s : Shared} {A : Around} : ∀ (n : Nat) {v : Value} {d : PyData} {Q : Bool → Shared → Prop}, Kd s.heap v d → (∀ b, Q b s) → wpAny (model P w) A (hashByValue n v) Q E s
  | 0, v, d, Q, h, q => by
    cases h with
    | str x tk => exact wpAny_pure (q false)
    | tup _ _ _ _ => exact wpAny_pure (q false)
  | n + 1, v, d, Q, h, q => by
    cases h with
    | str x tk => exact wpAny_pure (q false)
    | tup h1 h2 h3 h4 =>
      rw [hashByValue.eq_def]
      dsimp only
      refine wpAny_bind (wpAny_specialOf ⟨_, h1, h2⟩ F.slot_tuple_hash.lookup ?_)
      refine wpAny_bind (wpAny_seqItems h1 h3 ?_)
      rw [← Array.forIn_toList]
      refine wpAny_bind ?_
      refine wpAny_forIn_list _ (fun rest (b : Option Bool × Unit) s' => s' = s ∧ ∃ ds, KdAll s.heap rest ds) _ ?_ ?_ _ _ ⟨rfl, _, h4⟩
      · rintro x rest b s' ⟨rfl, ds, hk⟩
        cases hk with
        | cons a r =>
          refine wpAny_bind (hashBy_key n a fun b' => ?_)
          cases b'
          · refine wp_if_pos rfl (wpAny_pure ?_)
            dsimp only
            exact wpAny_pure (q _)
          · refine wp_if_neg (by decide) (wpAny_pure ⟨rfl, _, r⟩)
      · rintro b s' ⟨rfl, ds, hk⟩
        rcases b.1 with _ | r
        · exact wpAny_pure (q _)
        · exact wpAny_pure (q _)
theorem quiet_key {P : Program} {w : World} {E : Value → Shared → Prop} {s : Shared} {A : Around} : ∀ (n : Nat) {v : Value} {d : PyData} {Q : Bool → Shared → Prop}, Kd s.heap v d → d.depth ≤ n → Q true s → wpAny (model P w) A (eqIsQuiet n v) Q E s
  | 0, v, d, Q, h, hn, q => by
    cases h with
    | str x tk => exact wpAny_pure q
    | tup h1 h2 h3 h4 =>
      rw [PyData.depth] at hn
      omega
  | n + 1, v, d, Q, h, hn, q => by
    cases h with
    | str x tk => exact wpAny_pure q
    | tup h1 h2 h3 h4 =>
      rw [PyData.depth] at hn
      rw [eqIsQuiet.eq_def]
      dsimp only
      refine wpAny_bind (wpAny_specialOf ⟨_, h1, h2⟩ F.slot_tuple_eq.lookup ?_)
      refine wpAny_bind (wpAny_isInstance ⟨_, h1, h2⟩ isSubtype_tuple_tuple (wp_if_neg (by decide) ?_))
      refine wpAny_bind (wpAny_seqItems h1 h3 ?_)
      rw [← Array.forIn_toList]
      refine wpAny_bind ?_
      refine wpAny_forIn_list _ (fun rest (b : Option Bool × Unit) s' => s' = s ∧ b.1 = none ∧ ∃ ds, KdAll s.heap rest ds ∧ PyData.depthAll ds ≤ n) _ ?_ ?_ _ _ ⟨rfl, rfl, _, h4, by omega⟩
      · rintro x rest b s' ⟨rfl, hb, ds, hk, hd⟩
        cases hk with
        | cons a r =>
          rw [PyData.depthAll] at hd
          exact wpAny_bind (quiet_key n a (by omega) (wp_if_neg (by decide) (wpAny_pure ⟨rfl, rfl, _, r, by omega⟩)))
      · rintro b s' ⟨rfl, hb, _⟩
        rw [hb]
        exact wpAny_pure q
theorem class_key {P : Program} {w : World} {E : Value → Shared → Prop} {s : Shared} {A : Around} : ∀ (n : Nat) {v : Value} {d : PyData} {Q : Bool → Shared → Prop}, Kd s.heap v d → d.depth ≤ n → Q false s → wpAny (model P w) A (ofAClassStatement n v) Q E s
  | 0, v, d, Q, h, hn, q => by
    cases h with
    | str x tk => exact wpAny_pure q
    | tup h1 h2 h3 h4 =>
      rw [PyData.depth] at hn
      omega
  | n + 1, v, d, Q, h, hn, q => by
    cases h with
    | str x tk => exact wpAny_pure q
    | tup h1 h2 h3 h4 =>
      rw [PyData.depth] at hn
      rw [ofAClassStatement.eq_def]
      dsimp only
      refine wpAny_bind (wpAny_typeOf ⟨_, h1, h2⟩ ?_)
      dsimp only
      refine wp_if_pos rfl (wpAny_bind (wpAny_pure (wp_if_neg (by decide) ?_)))
      refine wpAny_bind (wpAny_seqItems h1 h3 ?_)
      dsimp only
      rw [← Array.forIn_toList]
      refine wpAny_bind ?_
      refine wpAny_forIn_list _ (fun rest (b : Option Bool × Unit) s' => s' = s ∧ b.1 = none ∧ ∃ ds, KdAll s.heap rest ds ∧ PyData.depthAll ds ≤ n) _ ?_ ?_ _ _ ⟨rfl, rfl, _, h4, by omega⟩
      · rintro x rest b s' ⟨rfl, hb, ds, hk, hd⟩
        cases hk with
        | cons a r =>
          rw [PyData.depthAll] at hd
          exact wpAny_bind (class_key n a (by omega) (wp_if_neg (by decide) (wpAny_pure ⟨rfl, rfl, _, r, by omega⟩)))
      · rintro b s' ⟨rfl, hb, _⟩
        rw [hb]
        exact wpAny_pure q
/-! ## equal just if the same -/
mutual
def keyD : PyData → Bool
  | .str x => PyData.canLay0 (.str x)
  | .tuple ds => keysD ds
  | _ => false
def keysD : List PyData → Bool
  | [] => true
  | d :: ds => keyD d && keysD ds
end
mutual
theorem keyD_lay : ∀ {d : PyData}, keyD d = true → d.canLay0 = true
  | .str x, h => by rw [keyD] at h; exact h
  | .tuple ds, h => by rw [keyD] at h; rw [PyData.canLay0]; exact keysD_lay h
  | .none, h => by simp [keyD] at h
  | .bool _, h => by simp [keyD] at h
  | .int _, h => by simp [keyD] at h
  | .list _, h => by simp [keyD] at h
  | .dict _, h => by simp [keyD] at h
theorem keysD_lay : ∀ {ds : List PyData}, keysD ds = true → PyData.canLayAll0 ds = true
  | [], h => by rw [PyData.canLayAll0]
  | d :: ds, h => by
    rw [keysD, Bool.and_eq_true] at h
    rw [PyData.canLayAll0, keyD_lay h.1, keysD_lay h.2]
    rfl
end
mutual
theorem eqv_key : ∀ {d e : PyData}, keyD d = true → keyD e = true → (d.eqv e = true ↔ d = e)
  | .str x, .str y, _, _ => by rw [PyData.eqv]; simp
  | .tuple ds, .tuple es, h, k => by
    rw [keyD] at h k
    rw [PyData.eqv, eqvs_key h k]
    constructor
    · rintro rfl; rfl
    · intro z; cases z; rfl
  | .str x, .tuple es, _, _ => by simp [PyData.eqv]
  | .tuple ds, .str y, _, _ => by simp [PyData.eqv]
  | .none, _, h, _ => by simp [keyD] at h
  | .bool _, _, h, _ => by simp [keyD] at h
  | .int _, _, h, _ => by simp [keyD] at h
  | .list _, _, h, _ => by simp [keyD] at h
  | .dict _, _, h, _ => by simp [keyD] at h
  | _, .none, _, h => by simp [keyD] at h
  | _, .bool _, _, h => by simp [keyD] at h
  | _, .int _, _, h => by simp [keyD] at h
  | _, .list _, _, h => by simp [keyD] at h
  | _, .dict _, _, h => by simp [keyD] at h
theorem eqvs_key : ∀ {ds es : List PyData}, keysD ds = true → keysD es = true → (PyData.eqvAll ds es = true ↔ ds = es)
  | [], [], _, _ => by simp [PyData.eqvAll]
  | d :: ds, [], _, _ => by simp [PyData.eqvAll]
  | [], e :: es, _, _ => by simp [PyData.eqvAll]
  | d :: ds, e :: es, h, k => by
    rw [keysD, Bool.and_eq_true] at h k
    rw [PyData.eqvAll, Bool.and_eq_true, eqv_key h.1 k.1, eqvs_key h.2 k.2]
    constructor
    · rintro ⟨rfl, rfl⟩; rfl
    · intro z; cases z; exact ⟨rfl, rfl⟩
end
theorem eqBool_key {P : Program} {w : World} {A : Around} {E : Value → Shared → Prop} {s : Shared} {u v : Value} {d e : PyData} {Q : Bool → Shared → Prop} (h : Kd s.heap u d) (k : Kd s.heap v e)
    (hd : keyD d = true) (he : keyD e = true) (hu : A.units + d.depth < cLine) (q : ∀ b, (b = true ↔ d = e) → Q b s) : wpAny (model P w) A (eqBool u v) Q E s :=
  SeqAt.eqBoolOverData P w A E s u v d e [] [] Q h.reads k.reads (keyD_lay hd) (keyD_lay he) (by have := Nat.min_le_left d.depth e.depth; omega) (q _ (eqv_key hd he))
end Lf

set_option maxHeartbeats 4000000
namespace Lf
open PySem PySem.Spec PyProof.Rows L2
/-! ## sets of such tuples: the search -/
def rowsD (w : World) (L : List (Addr × PyData)) : List (Int × Value) := L.map fun p => (hashD w p.2, Value.ref p.1)
structure KdOk (h : Heap) (x : Addr) (d : PyData) : Prop where
  kd : Kd h (.ref x) d
  key : keyD d = true
  deep : d.depth ≤ 7
theorem KdOk.mono {h h' : Heap} {x : Addr} {d : PyData} (g : KdOk h x d) (k : ∀ b o, h.get? b = some o → o.cls = .type "tuple" → h'.get? b = some o) : KdOk h' x d := ⟨g.kd.mono k, g.key, g.deep⟩
structure SetDR (w : World) (h : Heap) (a : Addr) (L : List (Addr × PyData)) (es : Array (Int × Value)) (ep : Nat) (t : SetTable) : Prop where
  ob : ∃ o, h.get? a = some o ∧ o.ExactSet ∧ o.data = Data.set es ep t
  rows : es.toList = rowsD w L
  tab : TabOk t (L.map fun p => hashD w p.2)
  nd : (L.map (·.2)).Nodup
  kd : ∀ p ∈ L, KdOk h p.1 p.2
  led : w.params.followText "set-order" = true ∨ t.led = true
  room : L.length * 5 < t.mask * 3
  few : L.length < 64
section
variable {w : World} {h : Heap} {a : Addr} {L : List (Addr × PyData)} {es : Array (Int × Value)} {ep : Nat} {t : SetTable}
theorem SetDR.size (g : SetDR w h a L es ep t) : es.size = L.length := by
  rw [← Array.length_toList, g.rows, rowsD, List.length_map]
theorem SetDR.fits (g : SetDR w h a L es ep t) : t.fits es.size = true := by
  have sz := g.tab.sz
  rw [List.length_map] at sz
  show (t.place.size == es.size && decide (t.fill ≤ t.mask)) = true
  rw [Bool.and_eq_true, beq_iff_eq, decide_eq_true_eq]
  refine ⟨sz.trans g.size.symm, ?_⟩
  show t.place.size + t.dummies.size ≤ t.mask
  rw [g.tab.dm, sz]
  have := g.room
  show L.length + 0 ≤ _
  omega
theorem SetDR.gw (g : SetDR w h a L es ep t) : ¬ t.gaveWay = true := by
  have := mask_odd g.tab.mok
  show ¬ (t.mask % 2 == 0) = true
  rw [this]
  decide
theorem SetDR.entry (g : SetDR w h a L es ep t) {i : Nat} {p : Addr × PyData} (e : L[i]? = some p) : es[i]? = some (hashD w p.2, Value.ref p.1) := by
  rw [← Array.getElem?_toList, g.rows, rowsD, List.getElem?_map, e]
  rfl
end
theorem seen_key {P : Program} {w : World} {A : Around} {E : Value → Shared → Prop} {s : Shared} {x : Addr} {d : PyData} {Q : Bool → Shared → Prop} (h : KdOk s.heap x d) {ys : List Value}
    (hy : ∀ y ∈ ys, ∃ e c, y = .ref c ∧ KdOk s.heap c e) (q : Q false s) : wpAny (model P w) A (searchCouldBeSeen (.ref x) ys) Q E s := by
  unfold searchCouldBeSeen
  refine wpAny_bind ?_
  refine wpAny_forIn_list _ (fun rest (b : Option Bool × Unit) s' => s' = s ∧ b.1 = none ∧ ∀ y ∈ rest, ∃ e c, y = .ref c ∧ KdOk s.heap c e) _ ?_ ?_ _ _ ⟨rfl, rfl, hy⟩
  · rintro y rest b s' ⟨rfl, hb, hr⟩
    obtain ⟨e, c, rfl, k⟩ := hr y List.mem_cons_self
    have fin : ∀ y ∈ rest, ∃ e c, y = .ref c ∧ KdOk s'.heap c e := fun y hy => hr y (List.mem_cons_of_mem _ hy)
    dsimp only
    by_cases z : (x == c || carriedByValue (.ref x) && carriedByValue (.ref c)) = true
    · refine wp_if_pos z (wpAny_pure ⟨rfl, rfl, fin⟩)
    · refine wp_if_neg z ?_
      refine wpAny_bind (quiet_key 8 h.kd (by have := h.deep; omega) (wp_if_neg (by decide) ?_))
      refine wpAny_bind (quiet_key 8 k.kd (by have := k.deep; omega) (wp_if_neg (by decide) ?_))
      refine wpAny_bind (class_key 8 h.kd (by have := h.deep; omega) (wp_if_neg (by decide) ?_))
      exact wpAny_bind (class_key 8 k.kd (by have := k.deep; omega) (wp_if_neg (by decide) (wpAny_pure ⟨rfl, rfl, fin⟩)))
  · rintro b s' ⟨rfl, hb, _⟩
    dsimp only
    rw [hb]
    exact wpAny_pure q
theorem nth_dummy (m : Nat) : ∀ (k : Nat) (p : SetTable.Probe), (nth m p k).dummy = p.dummy
  | 0, p => rfl
  | k + 1, p => by
    rw [nth_succ]
    unfold adv
    split
    · exact nth_dummy m k p
    · exact nth_dummy m k p
theorem search_key_from {P : Program} {w : World} {A : Around} {E : Value → Shared → Prop} {s : Shared} {a : Addr} {L : List (Addr × PyData)} {es : Array (Int × Value)} {ep : Nat} {t : SetTable}
    (g : SetDR w s.heap a L es ep t) {x : Addr} {d : PyData} (hx : KdOk s.heap x d) (hu : A.units + 8 < cLine) {K : Nat} (hK : K < 10 * SetTable.turns t.mask)
    (out : way t.mask (hashD w d) K ∉ t.place.toList) (inn : ∀ c, c < K → way t.mask (hashD w d) c ∈ t.place.toList) {Q : SetFound → Shared → Prop}
    (q1 : d ∈ L.map (·.2) → Q (.there none) s) (q2 : d ∉ L.map (·.2) → Q (.free (way t.mask (hashD w d) K) false) s) :
    ∀ (f c : Nat) (stand : Option SetTable.Probe), stand.getD (t.probeStart (hashD w d)) = nth t.mask (runAt t.mask (SetTable.bits (hashD w d) % (t.mask + 1)) (SetTable.bits (hashD w d))) c → c ≤ K → K - c < f →
      (∀ (i : Nat) (p : Addr × PyData), L[i]? = some p → p.2 = d → ∃ c', c ≤ c' ∧ c' < K ∧ t.place.toList[i]? = some (way t.mask (hashD w d) c')) →
      wpAny (model P w) A (setSearchFrom a (.ref x) (hashD w d) true f stand) Q E s
  | 0, c, stand, hs, hc, hf, hi => absurd hf (Nat.not_lt_zero _)
  | f + 1, c, stand, hs, hc, hf, hi => by
    obtain ⟨o, ho, hxs, hd⟩ := g.ob
    rw [setSearchFrom_succ]
    refine wpAny_bind (wpAny_setState_of ho hd g.fits ?_)
    dsimp only
    refine wp_if_neg g.gw ?_
    generalize hp : nth t.mask (runAt t.mask (SetTable.bits (hashD w d) % (t.mask + 1)) (SetTable.bits (hashD w d))) c = p at hs
    have hn : ∀ k, (nth t.mask p k).j = way t.mask (hashD w d) (c + k) := fun k => by rw [← hp, ← nth_add]
    have hdm : p.dummy = none := by rw [← hp, nth_dummy]; rfl
    have hat : ∀ (i : Nat) (p' : Addr × PyData), L[i]? = some p' → (Option.map (fun x => x.fst) es[i]?).getD 0 = hashD w p'.2 := fun i p' e => by rw [g.entry e]; rfl
    have spec := go_spec t g.tab.ris g.tab.dm (fun i => (Option.map (fun x => x.fst) es[i]?).getD 0) (hashD w d) (10 * SetTable.turns t.mask) (K - c) p hdm (by omega)
      (fun k hk => by rw [hn]; exact inn _ (by omega)) (by rw [hn, show c + (K - c) = K by omega]; exact out)
    rcases spec with ⟨k, i, hk, hpl, hh, hbef, hgo⟩ | ⟨hno, hgo⟩
    · rw [show t.probe (fun i => (Option.map (fun x => x.fst) es[i]?).getD 0) (hashD w d) (stand.getD (t.probeStart (hashD w d))) = some (.candidate (nth t.mask p k).j i (nth t.mask p (k + 1))) by rw [hs]; exact hgo]
      dsimp only
      have hil : i < L.length := by
        have h1 := (List.getElem?_eq_some_iff.mp hpl).1
        have h2 := g.tab.sz
        rw [List.length_map] at h2
        rw [Array.length_toList] at h1
        omega
      obtain ⟨p', hp'⟩ : ∃ p', L[i]? = some p' := ⟨_, List.getElem?_eq_getElem hil⟩
      have hm : p' ∈ L := List.mem_of_getElem? hp'
      have kp := g.kd p' hm
      have rest : wpAny (model P w) A (L2.searchRest a (.ref x) (hashD w d) true f es t (nth t.mask p k).j i (nth t.mask p (k + 1))) Q E s := by
        unfold L2.searchRest
        rw [g.entry hp']
        dsimp only
        refine wpAny_bind (wpAny_holding (eqBool_key kp.kd hx.kd kp.key hx.key (by have := kp.deep; omega) fun b hb => ?_))
        refine wpAny_bind (wpAny_setState_of ho hd g.fits ?_)
        dsimp only
        cases b with
        | true => exact wp_if_pos (by rfl) (wpAny_pure (q1 (List.mem_map.mpr ⟨p', hm, hb.mp rfl⟩)))
        | false =>
          have nb : p'.2 ≠ d := fun z => Bool.false_ne_true (hb.mpr z)
          refine wp_if_neg (by decide) ?_
          rw [sameMem]
          dsimp only
          rw [if_pos rfl, slot_live g.tab.ris hpl]
          dsimp only
          rw [g.entry hp']
          dsimp only
          refine wpAny_bind (wpAny_isSame_ref_self (wpAny_bind (wpAny_pure ?_)))
          rw [if_pos rfl]
          dsimp only
          refine wp_if_neg (by decide) ?_
          refine search_key_from g hx hu hK out inn q1 q2 f (c + (k + 1)) _ ?_ (by omega) (by omega) fun i' p2 e2 d2 => ?_
          · show nth t.mask p (k + 1) = _
            conv => rhs; rw [nth_add, hp]
          · obtain ⟨c', h1, h2, h3⟩ := hi i' p2 e2 d2
            refine ⟨c', ?_, h2, h3⟩
            refine Decidable.byContradiction fun lt => ?_
            have h3' : t.place.toList[i']? = some (nth t.mask p (c' - c)).j := by rw [hn, show c + (c' - c) = c' by omega]; exact h3
            rcases Nat.lt_or_ge (c' - c) k with l | l
            · exact hbef (c' - c) i' l h3' (by rw [hat i' p2 e2, d2])
            · have e : c' - c = k := by omega
              rw [e] at h3'
              have s1 := slot_live g.tab.ris h3'
              have s2 := slot_live g.tab.ris hpl
              rw [s1] at s2
              cases s2
              rw [hp'] at e2
              cases e2
              exact nb d2
      by_cases ld : (!t.led) = true
      · refine wp_if_pos ld (wpAny_bind (seen_key hx (fun y hy => ?_) (wp_if_neg (by decide) rest)))
        obtain ⟨e, he, rfl⟩ := List.mem_map.mp hy
        have he' : e ∈ es.toList := by
          have := he
          simp only [Array.toList_filter', List.mem_filter] at this
          exact this.1
        rw [g.rows, rowsD] at he'
        obtain ⟨p2, h2, rfl⟩ := List.mem_map.mp he'
        exact ⟨p2.2, p2.1, rfl, g.kd p2 h2⟩
      · exact wp_if_neg ld rest
    · rw [show t.probe (fun i => (Option.map (fun x => x.fst) es[i]?).getD 0) (hashD w d) (stand.getD (t.probeStart (hashD w d))) = some (.empty (nth t.mask p (K - c)).j none) by rw [hs]; exact hgo]
      dsimp only
      rw [hn, show c + (K - c) = K by omega]
      refine wpAny_pure (q2 fun hm => ?_)
      obtain ⟨p2, h2, d2⟩ := List.mem_map.mp hm
      obtain ⟨i', hi', e2⟩ := List.getElem_of_mem h2
      have e2' : L[i']? = some p2 := by rw [List.getElem?_eq_getElem hi', e2]
      obtain ⟨c', h1, h2', h3⟩ := hi i' p2 e2' d2
      exact hno (c' - c) i' (by omega) (by rw [hn, show c + (c' - c) = c' by omega]; exact h3) (by rw [hat i' p2 e2', d2])
end Lf

set_option maxHeartbeats 4000000
namespace Lf
open PySem PySem.Spec PyProof.Rows L2
theorem search_key {P : Program} {w : World} {A : Around} {E : Value → Shared → Prop} {s : Shared} {a : Addr} {L : List (Addr × PyData)} {es : Array (Int × Value)} {ep : Nat} {t : SetTable}
    (g : SetDR w s.heap a L es ep t) {x : Addr} {d : PyData} (hx : KdOk s.heap x d) (hu : A.units + 8 < cLine) {Q : SetFound → Shared → Prop}
    (q1 : d ∈ L.map (·.2) → Q (.there none) s)
    (q2 : ∀ K, d ∉ L.map (·.2) → way t.mask (hashD w d) K ∉ t.place.toList → (∀ c, c < K → way t.mask (hashD w d) c ∈ t.place.toList) → Q (.free (way t.mask (hashD w d) K) false) s) :
    wpAny (model P w) A (setSearch a (.ref x) (hashD w d) true) Q E s := by
  have room := g.room
  obtain ⟨K, hK, out, inn⟩ := g.tab.first (by rw [List.length_map]; omega) (hashD w d)
  have hm : t.mask ≤ 127 := by rcases g.tab.mok with h | h | h <;> omega
  have ht : 10 * SetTable.turns t.mask ≤ 1420 := by
    show 10 * (t.mask + 15) ≤ 1420
    omega
  unfold setSearch
  refine search_key_from g hx hu hK out inn q1 (fun nd => q2 K nd out inn) 100000 0 none (by rw [Option.getD_none]; exact start_run t _) (Nat.zero_le _) (by omega) fun i p e hp => ?_
  have hil : i < t.place.toList.length := by
    have h1 := (List.getElem?_eq_some_iff.mp e).1
    have h2 := g.tab.sz
    rw [List.length_map] at h2
    rw [Array.length_toList]
    omega
  obtain ⟨k, hk, hw⟩ := g.tab.before (h := hashD w d) (K := K) (i := i) out (by rw [List.getElem?_map, e, ← hp]; rfl) (List.getElem?_eq_getElem hil)
  exact ⟨k, Nat.zero_le _, hk, by rw [hw]; exact List.getElem?_eq_getElem hil⟩
theorem range_get {α : Type} : ∀ L : List α, (List.range L.length).filterMap (fun i => L[i]?) = L
  | [] => rfl
  | x :: L => by
    rw [List.length_cons, List.range_succ_eq_map, List.filterMap_cons]
    simp only [List.getElem?_cons_zero, List.filterMap_map]
    congr 1
    exact range_get L
theorem order_rowsD {w : World} (L : List (Addr × PyData)) (es : Array (Int × Value)) (order : Array Nat) (he : es.toList = rowsD w L) (hp : order.toList.Perm (List.range L.length)) :
    ∃ L2, (Array.filterMap (fun x => es[x]?) order).toList = rowsD w L2 ∧ L2.Perm L ∧ L2.map (fun p => hashD w p.2) = order.toList.map fun i => (es.map (·.1)).getD i 0 := by
  have ge : ∀ i : Nat, es[i]? = (L[i]?).map fun p => (hashD w p.2, Value.ref p.1) := fun i => by
    rw [← Array.getElem?_toList, he, rowsD, List.getElem?_map]
  refine ⟨order.toList.filterMap fun i => L[i]?, ?_, ?_, ?_⟩
  · rw [Array.toList_filterMap, rowsD, List.map_filterMap]
    exact congrArg (fun f => List.filterMap f order.toList) (funext ge)
  · have := hp.filterMap fun i => L[i]?
    rw [range_get] at this
    exact this
  · have hb : ∀ i ∈ order.toList, i < L.length := fun i hi => List.mem_range.mp (hp.mem_iff.mp hi)
    revert hb
    generalize order.toList = l
    intro hb
    induction l with
    | nil => rfl
    | cons i l ih =>
      have hi := hb i List.mem_cons_self
      have e : L[i]? = some L[i] := List.getElem?_eq_getElem hi
      rw [List.filterMap_cons, e]
      dsimp only
      rw [List.map_cons, List.map_cons, ih fun j hj => hb j (List.mem_cons_of_mem _ hj)]
      congr 1
      have := ge i
      rw [e] at this
      rw [Array.getD_eq_getD_getElem?, Array.getElem?_map, this]
      rfl
theorem KdOk.same {h h' : Heap} {x a : Addr} {d : PyData} {o : Obj} (g : KdOk h x d) (ho : h.get? a = some o) (hx : o.ExactSet) (sb : Heap.SameBut a h h') : KdOk h' x d :=
  g.mono fun b u e c => (sb.2 b fun z => by
    subst z
    rw [ho] at e
    cases e
    rw [hx.1] at c
    injection c with z
    exact absurd z (by decide)).trans e
theorem relay_key {P : Program} {w : World} {A : Around} {E : Value → Shared → Prop} {s : Shared} {a : Addr} {L : List (Addr × PyData)} {es : Array (Int × Value)} {ep : Nat} {t : SetTable} {o : Obj}
    (ho : s.heap.get? a = some o) (hx : o.ExactSet) (hd : o.data = Data.set es ep t) (rows : es.toList = rowsD w L) (sz : t.place.size = es.size) (dm : t.dummies = #[]) (le : es.size ≤ t.mask)
    (nd : (L.map (·.2)).Nodup) (kd : ∀ p ∈ L, KdOk s.heap p.1 p.2) (led : w.params.followText "set-order" = true ∨ t.led = true) (few : L.length < 64) {wanted M : Nat}
    (hM : SetTable.sizeAbove wanted - 1 = M) (mok : MaskOk M) (h128 : SetTable.sizeAbove wanted ≤ 128) (room : L.length * 5 < M * 3) {Q : Unit → Shared → Prop}
    (k : ∀ h' L' es' ep' t', Heap.SameBut a s.heap h' → SetDR w h' a L' es' ep' t' → L'.Perm L → Q () { heap := h', gens := s.gens, drawn := s.drawn, toks := s.toks, os := s.os }) :
    wpAny (model P w) A (setRelay a wanted) Q E s := by
  have le2 : es.size = L.length := by rw [← Array.length_toList, rows, rowsD, List.length_map]
  have fit : t.fits es.size = true := by
    show (t.place.size == es.size && decide (t.fill ≤ t.mask)) = true
    rw [Bool.and_eq_true, beq_iff_eq, decide_eq_true_eq]
    refine ⟨sz, ?_⟩
    show t.place.size + t.dummies.size ≤ t.mask
    rw [dm, sz]
    show es.size + 0 ≤ _
    omega
  obtain ⟨t', order, hr, hp, tab, hmask, hled, hpl, hdm⟩ := relaid_ok t (hs := es.map (·.1)) hM mok (by rw [Array.size_map]; omega)
  rw [Array.size_map, le2] at hp
  obtain ⟨L2, e1, e2, e3⟩ := order_rowsD L es order rows hp
  have s2 : (Array.filterMap (fun x => es[x]?) order).size = es.size := by
    rw [← Array.length_toList, e1, rowsD, List.length_map, e2.length_eq, le2]
  rw [setRelay_eq]
  refine wpAny_bind (wpAny_setState_of ho hd fit ?_)
  dsimp only
  refine wp_if_neg (by rw [sizeLine_eq]; omega) ?_
  rw [hr]
  dsimp only
  refine wpAny_bind ?_
  refine wp_if_neg (by rw [s2]; simp) (wpAny_pure ?_)
  dsimp only
  refine wpAny_storeSet_of ho hd ?_ (by rw [s2, sizeLine_eq]; omega)
  have sb : Heap.SameBut a s.heap (s.heap.update a (Obj.putSet (Array.filterMap (fun x => es[x]?) order) t')) := Heap.SameBut.update _ _ _
  refine k _ L2 _ (ep + 1) t' sb ⟨⟨_, store_at ho hd, ⟨hx.1, hx.2.1, hx.2.2⟩, rfl⟩, e1, ?_, (e2.map _).nodup_iff.mpr nd, fun p hp' => (kd p (e2.mem_iff.mp hp')).same ho hx sb, led.imp id fun z => hled.trans z, ?_, ?_⟩ e2
  · rw [e3]; exact tab
  · rw [e2.length_eq, hmask]; exact room
  · rw [e2.length_eq]; exact few
theorem rows_putD {w : World} (L : List (Addr × PyData)) (p : Nat) (x : Addr) (d : PyData) : rowsD w (L.take p ++ (x, d) :: L.drop p) = (rowsD w L).take p ++ (hashD w d, Value.ref x) :: (rowsD w L).drop p := by
  unfold rowsD
  rw [List.map_append, List.map_cons, List.map_take, List.map_drop]
theorem add_key {P : Program} {w : World} {A : Around} {E : Value → Shared → Prop} {s : Shared} {a : Addr} {L : List (Addr × PyData)} {es : Array (Int × Value)} {ep : Nat} {t : SetTable}
    (g : SetDR w s.heap a L es ep t) {x : Addr} {d : PyData} (hx : KdOk s.heap x d) (hu : A.units + 8 < cLine) (hn : L.length + 1 < 64) {Q : Bool → Shared → Prop}
    (q : ∀ b h' L' es' ep' t', Heap.SameBut a s.heap h' → SetDR w h' a L' es' ep' t' → (d ∈ L.map (·.2) → L' = L) → (d ∉ L.map (·.2) → L'.Perm ((x, d) :: L)) → Q b { heap := h', gens := s.gens, drawn := s.drawn, toks := s.toks, os := s.os }) :
    wpAny (model P w) A (setAddHashed a (.ref x) (hashD w d)) Q E s := by
  obtain ⟨o, ho, hxs, hd⟩ := g.ob
  have room := g.room
  have sze := g.size
  refine wpAny_holding ?_
  show wpAny _ _ (setAddHashedIn a (.ref x) (hashD w d) (99999 + 1)) _ _ _
  rw [setAddHashedIn_succ]
  refine wpAny_bind (wpAny_setState_of ho hd g.fits ?_)
  dsimp only
  refine wp_if_neg (by simp [byScan, Value.scannable]) ?_
  refine wpAny_bind (search_key g hx hu (fun hm => ?_) fun K hm out inn => ?_)
  · dsimp only
    exact wpAny_pure (q _ _ L es ep t (Heap.SameBut.refl _ _) g (fun _ => rfl) fun z => absurd hm z)
  · dsimp only
    obtain ⟨p1, p2, p3, p4, p5, p6, p7, p8, p9⟩ := g.tab.put out inn
    refine wpAny_bind (wpAny_setState_of ho hd g.fits ?_)
    dsimp only
    generalize t.put (way t.mask (hashD w d) K) = z at p1 p2 p3 p4 p5 p6 p7 p8 p9 ⊢
    obtain ⟨t1, pp⟩ := z
    dsimp only at p1 p2 p3 p4 p5 p6 p7 p8 p9 ⊢
    rw [← p1] at p2 p3
    rw [List.length_map] at p2 p9
    have rows1 : (SetTable.insertAt es pp (hashD w d, Value.ref x)).toList = rowsD w (L.take pp ++ (x, d) :: L.drop pp) := by
      rw [SetTable.toList_insertAt, g.rows, rows_putD]
    have pm : (L.take pp ++ (x, d) :: L.drop pp).Perm ((x, d) :: L) := put_perm L pp (x, d)
    have len1 : (L.take pp ++ (x, d) :: L.drop pp).length = L.length + 1 := by rw [pm.length_eq, List.length_cons]
    have hs1 : (L.take pp ++ (x, d) :: L.drop pp).map (fun p => hashD w p.2) = List.take pp (L.map fun p => hashD w p.2) ++ hashD w d :: List.drop pp (L.map fun p => hashD w p.2) := by
      rw [List.map_append, List.map_cons, List.map_take, List.map_drop]
    have nd1 : ((L.take pp ++ (x, d) :: L.drop pp).map (·.2)).Nodup := (pm.map (·.2)).nodup_iff.mpr (List.nodup_cons.mpr ⟨hm, g.nd⟩)
    have kd1 : ∀ p ∈ L.take pp ++ (x, d) :: L.drop pp, KdOk s.heap p.1 p.2 := fun p hp => by
      rcases List.mem_cons.mp (pm.mem_iff.mp hp) with rfl | hp
      · exact hx
      · exact g.kd p hp
    have sz1 : (SetTable.insertAt es pp (hashD w d, Value.ref x)).size = L.length + 1 := by
      rw [← Array.length_toList, rows1, rowsD, List.length_map, len1]
    have tab1 : TabOk t1 ((L.take pp ++ (x, d) :: L.drop pp).map fun p => hashD w p.2) := by rw [hs1]; exact p3
    have led1 : w.params.followText "set-order" = true ∨ t1.led = true := g.led.imp id fun z => p5.trans z
    clear hs1 p3
    generalize L.take pp ++ (x, d) :: L.drop pp = L1 at rows1 pm len1 nd1 kd1 tab1
    generalize SetTable.insertAt es pp (hashD w d, Value.ref x) = es1 at rows1 sz1 ⊢
    have szl : t1.place.size = L1.length := by
      have := tab1.sz
      rwa [List.length_map] at this
    -- the rest, whatever is noted about the values
    have fin : ∀ t2 : SetTable, t2.mask = t1.mask → t2.place = t1.place → t2.dummies = t1.dummies → t2.led = t1.led → TabOk t2 (L1.map fun p => hashD w p.2) →
        wpAny (model P w) A (do
          storeSet a es1 t2
          if (!false && t2.tooFull) = true then do
            setRelay a (SetTable.grown (es.size + 1))
            pure true
          else pure true) Q E s := by
      intro t2 m1 m2 m3 m4 tab2
      refine wpAny_bind (wpAny_storeSet_of ho hd ?_ (by rw [sz1, sizeLine_eq]; omega))
      have at1 := store_at (es' := es1) (t' := t2) ho hd
      have sb : Heap.SameBut a s.heap (s.heap.update a (Obj.putSet es1 t2)) := Heap.SameBut.update _ _ _
      by_cases full : (!false && t2.tooFull) = true
      · rw [if_pos full]
        have hf : t2.fill * 5 ≥ t2.mask * 3 := by
          have z : decide (t2.fill * 5 ≥ t2.mask * 3) = true := full
          exact of_decide_eq_true z
        have hf2 : t2.fill = L.length + 1 := by
          show t2.place.size + t2.dummies.size = _
          rw [m2, m3, szl, tab1.dm, len1]
          rfl
        have hmask : t2.mask = t.mask := m1.trans p4
        rw [hf2, hmask] at hf
        have cases3 : (t.mask = 7 ∧ L.length = 4) ∨ (t.mask = 31 ∧ L.length = 18) := by
          rcases g.tab.mok with h | h | h
          · left; omega
          · right; omega
          · omega
        have hxs' : Obj.ExactSet { cls := o.cls, dict := o.dict, data := Data.set es1 (ep + 1) t2, slots := o.slots } := ⟨hxs.1, hxs.2.1, hxs.2.2⟩
        have go : ∀ M, SetTable.sizeAbove (SetTable.grown (es.size + 1)) - 1 = M → MaskOk M → SetTable.sizeAbove (SetTable.grown (es.size + 1)) ≤ 128 → L1.length * 5 < M * 3 →
            wpAny (model P w) A (do
              setRelay a (SetTable.grown (es.size + 1))
              pure true) Q E { heap := s.heap.update a (Obj.putSet es1 t2), gens := s.gens, drawn := s.drawn, toks := s.toks, os := s.os } := by
          intro M hM mok h128 hroom
          refine wpAny_bind (relay_key (L := L1) at1 hxs' rfl rows1 (by rw [m2, szl, sz1, len1]) (by rw [m3]; exact tab1.dm) (by rw [sz1, hmask]; rcases cases3 with ⟨h1, h2⟩ | ⟨h1, h2⟩ <;> omega) nd1
            (fun p hp => (kd1 p hp).same ho hxs sb) (led1.imp id fun z => m4.trans z) (by rw [len1]; omega) hM mok h128 hroom fun h' L' es' ep' t' sb' g' pm' => wpAny_pure (q _ _ L' es' ep' t' (sb.trans sb') g' (fun z => absurd z hm) fun _ => pm'.trans pm))
        rcases cases3 with ⟨h1, h2⟩ | ⟨h1, h2⟩
        · have e : es.size + 1 = 5 := by omega
          rw [e] at go ⊢
          exact go 31 (by rw [size_20]) (.inr (.inl rfl)) (by rw [size_20]; decide) (by rw [len1, h2]; decide)
        · have e : es.size + 1 = 19 := by omega
          rw [e] at go ⊢
          exact go 127 (by rw [size_76]) (.inr (.inr rfl)) (by rw [size_76]; decide) (by rw [len1, h2]; decide)
      · rw [if_neg full]
        refine wpAny_pure (q _ _ L1 es1 (ep + 1) t2 sb ⟨⟨_, at1, ⟨hxs.1, hxs.2.1, hxs.2.2⟩, rfl⟩, rows1, tab2, nd1, fun p hp => (kd1 p hp).same ho hxs sb, led1.imp id fun z => m4.trans z, ?_, by rw [len1]; exact hn⟩ (fun z => absurd z hm) fun _ => pm)
        have hf2 : t2.fill = L1.length := by
          show t2.place.size + t2.dummies.size = _
          rw [m2, m3, szl, tab1.dm]
          rfl
        have nf : ¬ (t2.fill * 5 ≥ t2.mask * 3) := fun z => full (by
          show (true && decide (t2.fill * 5 ≥ t2.mask * 3)) = true
          rw [decide_eq_true z]
          rfl)
        rw [hf2] at nf
        omega
    by_cases pl : t1.plain = true
    · refine wp_if_pos pl (wpAny_bind (hashBy_key 8 hx.kd fun b => ?_))
      cases b
      · exact fin { mask := t1.mask, place := t1.place, dummies := t1.dummies, finger := t1.finger, led := t1.led, moves := t1.moves, plain := false } rfl rfl rfl rfl ⟨tab1.ris, tab1.dm, tab1.sz, tab1.mok, tab1.bd, tab1.reach⟩
      · exact fin t1 rfl rfl rfl rfl tab1
    · refine wp_if_neg pl (wpAny_bind (wpAny_pure ?_))
      exact fin t1 rfl rfl rfl rfl tab1
end Lf

set_option maxHeartbeats 4000000
namespace Lf
open PySem PySem.Spec PyProof.Rows L2
theorem SetDR.keep {w : World} {h h' : Heap} {a : Addr} {L : List (Addr × PyData)} {es : Array (Int × Value)} {ep : Nat} {t : SetTable} (g : SetDR w h a L es ep t) (k : ∀ o, h.get? a = some o → h'.get? a = some o)
    (kd : ∀ p ∈ L, KdOk h' p.1 p.2) : SetDR w h' a L es ep t := by
  obtain ⟨o, h1, h2⟩ := g.ob
  exact ⟨⟨o, k o h1, h2⟩, g.rows, g.tab, g.nd, kd, g.led, g.room, g.few⟩
structure GotD (ks : List (Addr × PyData)) (i : Nat) (L : List (Addr × PyData)) : Prop where
  sub : ∀ p ∈ L, p ∈ ks.take i
  all : ∀ p ∈ ks.take i, p.2 ∈ L.map (·.2)
  len : L.length ≤ i
def IvD (w : World) (h0 : Heap) (S : Addr) (ks : List (Addr × PyData)) (i : Nat) (h : Heap) : Prop :=
  (∀ b o, h0.get? b = some o → h.get? b = some o) ∧ ∃ L es ep t, SetDR w h S L es ep t ∧ GotD ks i L
theorem ivD_step {P : Program} {w : World} {A : Around} {h0 : Heap} {S : Addr} {ks : List (Addr × PyData)} {i : Nat} {x : Addr} {d : PyData} (hi : ks[i]? = some (x, d)) (hn : ks.length < 64) (hu : A.units + 8 < cLine)
    (kd : ∀ p ∈ ks, KdOk h0 p.1 p.2) (hS : h0.get? S = none)
    {s1 : Shared} {E' : Value → Shared → Prop} {Q' : Bool → Shared → Prop} (iv : IvD w h0 S ks i s1.heap)
    (q : ∀ b h' tk, s1.toks ≤ tk → Heap.SameBut S s1.heap h' → IvD w h0 S ks (i + 1) h' → Q' b { heap := h', gens := s1.gens, drawn := s1.drawn, toks := tk, os := s1.os }) :
    wpAny (model P w) A (setAdd S (.ref x)) Q' E' s1 := by
  obtain ⟨ext, L, es, ep, t, g, got⟩ := iv
  have hlt : i < ks.length := (List.getElem?_eq_some_iff.mp hi).1
  have hx : KdOk s1.heap x d := (kd (x, d) (List.mem_of_getElem? hi)).mono fun b o e _ => ext b o e
  have gl := got.len
  refine wpAny_holding (wpAny_bind (pyHash_key hx.kd (by have := hx.deep; omega) fun tk ht => ?_))
  refine add_key (s := { heap := s1.heap, gens := s1.gens, drawn := s1.drawn, toks := tk, os := s1.os }) g hx hu (by omega) fun b h' L' es' ep' t' sb g' e1 e2 => q b h' tk ht sb ⟨fun c o e => (sb.2 c fun z => by
    subst z
    rw [hS] at e
    cases e).trans (ext c o e), L', es', ep', t', g', ?_⟩
  by_cases hm : d ∈ L.map (·.2)
  · rw [e1 hm]
    refine ⟨fun p hp => ?_, fun p hp => ?_, by omega⟩
    · rw [L2.take_next hi]
      exact List.mem_append_left _ (got.sub p hp)
    · rw [L2.take_next hi] at hp
      rcases List.mem_append.mp hp with hp | hp
      · exact got.all p hp
      · rw [List.mem_singleton.mp hp]
        exact hm
  · have pm := e2 hm
    refine ⟨fun p hp => ?_, fun p hp => ?_, by rw [pm.length_eq, List.length_cons]; omega⟩
    · rw [L2.take_next hi]
      rcases List.mem_cons.mp (pm.mem_iff.mp hp) with rfl | hp
      · exact List.mem_append_right _ (List.mem_singleton.mpr rfl)
      · exact List.mem_append_left _ (got.sub p hp)
    · rw [L2.take_next hi] at hp
      rw [(pm.map (·.2)).mem_iff]
      rcases List.mem_append.mp hp with hp | hp
      · exact List.mem_cons_of_mem _ (got.all p hp)
      · rw [List.mem_singleton.mp hp]
        exact List.mem_cons_self
theorem setD_fresh {w : World} {h : Heap} {a : Addr} (e : h.get? a = some (setNew w)) : SetDR w h a [] #[] 0 (SetTable.fresh 0 0 !w.params.followText "set-order") := by
  have g := setTR_fresh (P := default) (w := w) e
  exact ⟨g.ob, rfl, g.tab, List.nodup_nil, fun p hp => (nomatch hp), g.led, g.room, by decide⟩
/-! ## over the layer -/
structure SetD0 (w : World) (h : Heap) (a : Addr) (L : List (Addr × PyData)) : Prop where
  ex : ∃ es ep t, (∃ o, h.get? a = some o ∧ o.ExactSet ∧ o.data = Data.set es ep t) ∧ es.toList = rowsD w L ∧ TabOk t (L.map fun p => hashD w p.2) ∧ (L.map (·.2)).Nodup ∧ (w.params.followText "set-order" = true ∨ t.led = true) ∧ L.length * 5 < t.mask * 3 ∧ L.length < 64
theorem SetDR.t0 {w : World} {h : Heap} {a : Addr} {L : List (Addr × PyData)} {es : Array (Int × Value)} {ep : Nat} {t : SetTable} (g : SetDR w h a L es ep t) : SetD0 w h a L := ⟨es, ep, t, g.ob, g.rows, g.tab, g.nd, g.led, g.room, g.few⟩
theorem SetD0.full {w : World} {h : Heap} {a : Addr} {L : List (Addr × PyData)} (g : SetD0 w h a L) (kd : ∀ p ∈ L, KdOk h p.1 p.2) : ∃ es ep t, SetDR w h a L es ep t := by
  obtain ⟨es, ep, t, h1, h2, h3, h4, h5, h6, h7⟩ := g.ex
  exact ⟨es, ep, t, h1, h2, h3, h4, kd, h5, h6, h7⟩
def SetDO (w : World) (a : Addr) (L : List (Addr × PyData)) : HO := .ext fun h => SetD0 w h a L
theorem setD_new {P : Program} {w : World} {H : Hp} {h : Heap} {a : Addr} {L : List (Addr × PyData)} (g : SetD0 w h a L) : ObjOk P w H h a (SetDO w a L) := by
  refine ⟨g, ?_, fun h1 h2 g1 k => ?_⟩
  · obtain ⟨es, ep, t, ⟨o, h1, _⟩, _⟩ := g.ex
    exact ⟨o, h1⟩
  · obtain ⟨es, ep, t, ⟨o, h1, h2⟩, h3⟩ := g1.ex
    exact ⟨es, ep, t, ⟨o, k o h1, h2⟩, h3⟩
mutual
theorem Dd.kdOf {X : Cx} {pins : List (Addr × Obj)} {σ : L2.St} {H : Hp} {s : Shared} (I : L2.Inv X pins σ H s) : ∀ {d : PyData} {v : V} {u : Value}, keyD d = true → Dd H v d → RelV v u → Kd s.heap u d
  | .str x, v, u, k, h, r => by
    cases h with
    | str _ =>
      obtain ⟨tk, rfl⟩ := r
      exact .str x tk
  | .tuple ds, v, u, k, h, r => by
    cases h with
    | tup h1 h2 =>
      obtain rfl := (show u = Value.ref _ from r)
      obtain ⟨_, its, rv, o, e1, e2, n, e3⟩ := I.hok _ _ h1
      rw [keyD] at k
      exact .tup e1 e2 e3 (DdAll.kdOf I k h2 rv)
  | .none, v, u, k, h, r => by simp [keyD] at k
  | .bool _, v, u, k, h, r => by simp [keyD] at k
  | .int _, v, u, k, h, r => by simp [keyD] at k
  | .list _, v, u, k, h, r => by simp [keyD] at k
  | .dict _, v, u, k, h, r => by simp [keyD] at k
theorem DdAll.kdOf {X : Cx} {pins : List (Addr × Obj)} {σ : L2.St} {H : Hp} {s : Shared} (I : L2.Inv X pins σ H s) : ∀ {ds : List PyData} {vs : List V} {us : List Value}, keysD ds = true → DdAll H vs ds → Vals vs us → KdAll s.heap us ds
  | [], vs, us, k, h, r => by
    cases h
    cases r
    exact .nil
  | d :: ds, vs, us, k, h, r => by
    cases h with
    | cons h1 h2 =>
      cases r with
      | cons r1 r2 =>
        rw [keysD, Bool.and_eq_true] at k
        exact .cons (Dd.kdOf I k.1 h1 r1) (DdAll.kdOf I k.2 h2 r2)
end
/-- a tuple of keys, not deep -/
structure KeyT (d : PyData) : Prop where
  tup : isTup d = true
  key : keyD d = true
  deep : d.depth ≤ 7
def aV : V → Addr | .ref a => a | _ => 0
theorem dd_tup {H : Hp} {v : V} {d : PyData} (h : Dd H v d) (k : isTup d = true) : v = .ref (aV v) := by
  cases h with
  | tup _ _ => rfl
  | _ => cases k
def ksOf (vs : List V) (ds : List PyData) : List (Addr × PyData) := (vs.zip ds).map fun p => (aV p.1, p.2)
theorem ksOf_at {H : Hp} : ∀ {ds : List PyData} {vs : List V} {us : List Value}, DdAll H vs ds → Vals vs us → (∀ d ∈ ds, KeyT d) → ∀ (i : Nat) (u : Value), us[i]? = some u → ∃ x d, (ksOf vs ds)[i]? = some (x, d) ∧ u = Value.ref x
  | [], _, us, h, r, k, i, u, e => by
    cases h
    cases r
    cases e
  | d :: ds, _, us, h, r, k, i, u, e => by
    cases h with
    | cons h1 h2 =>
      cases r with
      | cons r1 r2 =>
        cases i with
        | zero =>
          have z := dd_tup h1 (k d List.mem_cons_self).tup
          cases e
          refine ⟨_, d, rfl, ?_⟩
          rw [z] at r1
          exact r1
        | succ i => exact ksOf_at h2 r2 (fun d hd => k d (List.mem_cons_of_mem _ hd)) i u e
theorem ksOf_mem {H : Hp} : ∀ {ds : List PyData} {vs : List V}, DdAll H vs ds → (∀ d ∈ ds, KeyT d) → ∀ p ∈ ksOf vs ds, Dd H (.ref p.1) p.2 ∧ KeyT p.2 ∧ V.ref p.1 ∈ vs ∧ p.2 ∈ ds
  | [], _, h, k, p, hp => by
    cases h
    cases hp
  | d :: ds, _, h, k, p, hp => by
    cases h with
    | cons h1 h2 =>
      rcases List.mem_cons.mp hp with rfl | hp
      · have z := dd_tup h1 (k d List.mem_cons_self).tup
        exact ⟨by show Dd H (.ref (aV _)) d; rw [← z]; exact h1, k d List.mem_cons_self, by show V.ref (aV _) ∈ _; rw [← z]; exact List.mem_cons_self, List.mem_cons_self⟩
      · obtain ⟨a1, a2, a3, a4⟩ := ksOf_mem h2 (fun d hd => k d (List.mem_cons_of_mem _ hd)) p hp
        exact ⟨a1, a2, List.mem_cons_of_mem _ a3, List.mem_cons_of_mem _ a4⟩
theorem ksOf_snd {H : Hp} : ∀ {ds : List PyData} {vs : List V}, DdAll H vs ds → (ksOf vs ds).map (·.2) = ds
  | [], _, h => by cases h; rfl
  | d :: ds, _, h => by
    cases h with
    | cons h1 h2 =>
      show d :: (ksOf _ ds).map (·.2) = _
      rw [ksOf_snd h2]
section
variable {X : Cx}
def rSetOfD (K : PySem.W.Frag) (w : World) : List V → Hp → VK → Prop := fun xs H Q => ∃ (l : Addr) (vs : List V) (ds : List PyData), xs = [V.ref l] ∧ (SqL K H l vs ∨ SqT K H l vs) ∧ DdAll H vs ds ∧ (∀ d ∈ ds, KeyT d) ∧ ds.length < 64 ∧
  ∀ (a : Addr) (L : List (Addr × PyData)), H a = none → (L.map (·.2)).Nodup → (∀ p ∈ L, Dd H (.ref p.1) p.2 ∧ KeyT p.2 ∧ V.ref p.1 ∈ vs ∧ p.2 ∈ ds) → (∀ d ∈ ds, d ∈ L.map (·.2)) → Q (.ref a) (upd H a (SetDO w a L))
theorem cr_setOfD (hc : X.calm = true) (hu : X.A.units + 64 < cLine) : CallR X (.type "set") (rSetOfD X.K X.w) := by
  intro pins s σ H xs us Q I r h
  obtain ⟨l, vs, ds, rfl, hs, hd, hk, hn, q⟩ := h
  obtain ⟨u, rfl, ru⟩ := vals1 r
  obtain rfl : u = Value.ref l := ru
  have hA := I.ok.hd hc
  have hS : s.heap.get? s.heap.objs.size = none := by
    cases e : s.heap.get? s.heap.objs.size with
    | none => rfl
    | some o => exact absurd (Heap.lt_size e) (Nat.lt_irrefl _)
  have lk : (ksOf vs ds).length = ds.length := by
    have := congrArg List.length (ksOf_snd hd)
    rwa [List.length_map] at this
  have mem := ksOf_mem hd hk
  have kd : ∀ p ∈ ksOf vs ds, KdOk s.heap p.1 p.2 := fun p hp => by
    obtain ⟨a1, a2, _⟩ := mem p hp
    exact ⟨Dd.kdOf I a2.key a1 rfl, a2.key, a2.deep⟩
  have fin : ∀ n, n = (ksOf vs ds).length → ∀ h' tk, s.toks ≤ tk → (∀ b o, s.heap.get? b = some o → h'.get? b = some o) → IvD X.w s.heap s.heap.objs.size (ksOf vs ds) n h' → EP X pins σ Q (.ref s.heap.objs.size) { heap := h', gens := s.gens, drawn := s.drawn, toks := tk, os := s.os } := by
    rintro n rfl h' tk ht ho ⟨_, L, es, ep, t, g, got⟩
    have g1 := got.sub
    have g2 := got.all
    rw [List.take_length] at g1 g2
    refine ⟨.ref _, upd H s.heap.objs.size (SetDO X.w s.heap.objs.size L), I.laid ho (Nat.le_refl _) (setD_new g.t0), rfl, q _ L (I.hok.fresh (Nat.le_refl _)) g.nd (fun p hp => mem p (g1 p hp)) fun d hd' => ?_⟩
    rw [← ksOf_snd hd] at hd'
    obtain ⟨p, hp, rfl⟩ := List.mem_map.mp hd'
    exact g2 p hp
  have hk' : ∀ i h h', IvD X.w s.heap s.heap.objs.size (ksOf vs ds) i h → (∀ b o, b ≠ s.heap.objs.size + 1 → h.get? b = some o → h'.get? b = some o) → IvD X.w s.heap s.heap.objs.size (ksOf vs ds) i h' := by
    rintro i h h' ⟨ext, L, es, ep, t, g, got⟩ k
    have ext' : ∀ b o, s.heap.get? b = some o → h'.get? b = some o := fun b o e => k b o (Nat.ne_of_lt (Nat.lt_succ_of_lt (Heap.lt_size e))) (ext b o e)
    exact ⟨ext', L, es, ep, t, g.keep (fun o e => k _ o (Nat.ne_of_lt (Nat.lt_succ_self _)) e) fun p hp => (kd p (List.mem_of_mem_take (got.sub p hp))).mono fun b o e _ => ext' b o e, got⟩
  have h0 : IvD X.w s.heap s.heap.objs.size (ksOf vs ds) 0 (s.heap.push (setNew X.w)) :=
    ⟨fun b o e => Heap.get?_push_of_some _ e, [], _, _, _, setD_fresh (Heap.get?_push_size _ rfl), fun p hp => (nomatch hp), fun p hp => (nomatch hp), Nat.le_refl _⟩
  have hu' : X.A.in1.in1.in1.units + 8 < cLine := by
    have : X.A.in1.in1.in1.units ≤ X.A.units + 3 := Nat.le_refl _
    omega
  have ll := hd.length
  rcases hs with hs | hs
  · obtain ⟨its, rv, hl, hz⟩ := I.list hs
    have e : its.length = (ksOf vs ds).length := by
      have := rv.length
      omega
    refine set_list_by hA hl.isList (IvD X.w s.heap s.heap.objs.size (ksOf vs ds)) hk' h0 (fun i v s1 E' Q' hi iv q' => ?_) (fin _ e)
    obtain ⟨x, d, hx, rfl⟩ := ksOf_at hd rv hk i v (by simpa using hi)
    exact ivD_step hx (by omega) hu' kd hS iv q'
  · obtain ⟨its, rv, hl, hz⟩ := I.tuple hs
    have e : its.length = (ksOf vs ds).length := by
      have := rv.length
      omega
    refine set_tuple_by hA hl (IvD X.w s.heap s.heap.objs.size (ksOf vs ds)) hk' h0 (fun i v s1 E' Q' hi iv q' => ?_) (fin _ e)
    obtain ⟨x, d, hx, rfl⟩ := ksOf_at hd rv hk i v (by simpa using hi)
    exact ivD_step hx (by omega) hu' kd hS iv q'
end
end Lf

set_option maxHeartbeats 4000000
namespace Lf
open PySem PySem.Spec PyProof.Rows L2
mutual
theorem Kd.unique {h : Heap} : ∀ {v : Value} {d e : PyData}, Kd h v d → Kd h v e → d = e
  | _, _, _, .str x tk, k => by cases k; rfl
  | _, _, _, .tup a b c r, k => by
    cases k with
    | tup a' b' c' r' =>
      rw [a] at a'
      cases a'
      rw [c] at c'
      cases c'
      rw [KdAll.unique r r']
theorem KdAll.unique {h : Heap} : ∀ {vs : List Value} {ds es : List PyData}, KdAll h vs ds → KdAll h vs es → ds = es
  | _, _, _, .nil, k => by cases k; rfl
  | _, _, _, .cons a r, k => by
    cases k with
    | cons a' r' => rw [Kd.unique a a', KdAll.unique r r']
end
open Classical in
noncomputable def encH (h : Heap) (v : Value) : PyData := if z : ∃ d, Kd h v d then z.choose else .none
theorem encH_eq {h : Heap} {v : Value} {d : PyData} (k : Kd h v d) : encH h v = d := by
  have z : ∃ d, Kd h v d := ⟨d, k⟩
  unfold encH
  rw [dif_pos z]
  exact Kd.unique z.choose_spec k
def adV : Value → Addr | .ref a => a | _ => 0
section
variable {X : Cx}
def rSortedDS (w : World) : List V → Hp → VK → Prop := fun vs H Q => ∃ (a : Addr) (L : List (Addr × PyData)), vs = [V.ref a] ∧ H a = some (SetDO w a L) ∧ (∀ p ∈ L, Dd H (.ref p.1) p.2 ∧ KeyT p.2) ∧
  PySem.W.AllAlike (L.map (·.2)) ∧ PySem.W.Sortable (L.map (·.2)) ∧
  ∀ (L' : List (Addr × PyData)) (p : Addr), L'.Perm L → L'.length < 64 → L'.Pairwise (fun q r => PySem.W.dataLt r.2 q.2 = false) → H p = none → Q (.ref p) (upd H p (.lst (L'.map fun q => V.ref q.1)))
theorem vals_refs : ∀ L : List (Addr × PyData), Vals (L.map fun q => V.ref q.1) (L.map fun q => Value.ref q.1)
  | [] => .nil
  | q :: L => .cons rfl (vals_refs L)
theorem cr_sortedDS (hc : X.calm = true) (hu : X.A.units + 64 < cLine) : CallR X (.builtin "sorted") (rSortedDS X.w) := by
  intro pins s σ H vs us Q I r h
  obtain ⟨a, L, rfl, ha, hk, al, so, q⟩ := h
  obtain ⟨u, rfl, ru⟩ := vals1 r
  obtain rfl : u = Value.ref a := ru
  have kd : ∀ p ∈ L, KdOk s.heap p.1 p.2 := fun p hp => ⟨Dd.kdOf I (hk p hp).2.key (hk p hp).1 rfl, (hk p hp).2.key, (hk p hp).2.deep⟩
  obtain ⟨es, ep, t, g⟩ := (show SetD0 X.w s.heap a L from (I.hok _ _ ha).1).full kd
  obtain ⟨o, ho, hx, hd⟩ := g.ob
  have es2 : es.toList.map (·.2) = L.map fun p => Value.ref p.1 := by
    rw [g.rows, rowsD, List.map_map]
    rfl
  have en : ∀ p ∈ L, encH s.heap (.ref p.1) = p.2 := fun p hp => encH_eq (kd p hp).kd
  have em : (L.map fun p => Value.ref p.1).map (encH s.heap) = L.map (·.2) := by
    rw [List.map_map]
    exact List.map_congr_left fun p hp => en p hp
  refine sorted_set_raw (I.ok.hd hc) ⟨o, ho, hx.1, hd⟩ g.fits (by rw [g.size]; have := g.few; show L.length < 4096; omega) g.tab.ris g.led (encH s.heap) ?_ ?_ ?_ ?_ fun s' p out c old gg oo sz hp pm pw => ?_
  · rw [es2]
    intro v hv
    obtain ⟨p, hp, rfl⟩ := List.mem_map.mp hv
    rw [en p hp]
    exact (kd p hp).kd.reads
  · rw [es2, em]; exact al
  · rw [es2, em]; exact so
  · rw [es2]
    intro v hv
    obtain ⟨p, hp, rfl⟩ := List.mem_map.mp hv
    rw [en p hp]
    have := (kd p hp).deep
    omega
  · rw [es2] at pm
    have back : ∀ v ∈ out, ∃ q ∈ L, v = Value.ref q.1 ∧ encH s.heap v = q.2 := fun v hv => by
      obtain ⟨q, hq, rfl⟩ := List.mem_map.mp (pm.mem_iff.mp hv)
      exact ⟨q, hq, rfl, en q hq⟩
    have pL : (out.map fun v => (adV v, encH s.heap v)).Perm L := by
      have := pm.map fun v => (adV v, encH s.heap v)
      rw [List.map_map] at this
      refine this.trans (List.Perm.of_eq ?_)
      refine (List.map_congr_left (g := id) fun q hq => ?_).trans (List.map_id L)
      show (q.1, encH s.heap (.ref q.1)) = q
      rw [en q hq]
    have eo : out = (out.map fun v => (adV v, encH s.heap v)).map fun q => Value.ref q.1 := by
      rw [List.map_map]
      refine ((List.map_congr_left (g := id) fun v hv => ?_).trans (List.map_id out)).symm
      obtain ⟨q, hq, rfl, _⟩ := back v hv
      rfl
    have few := g.few
    have ll : (out.map fun v => (adV v, encH s.heap v)).length < 64 := by rw [pL.length_eq]; exact few
    refine ⟨.ref p, upd H p (.lst ((out.map fun v => (adV v, encH s.heap v)).map fun q => V.ref q.1)), inv_laid I old gg oo sz ⟨?_, out, c, ?_, hp⟩, rfl, q _ p pL ll ?_ (I.hok.fresh sz)⟩
    · rw [List.length_map, sizeLine_eq]
      omega
    · have := vals_refs (out.map fun v => (adV v, encH s.heap v))
      rw [← eo] at this
      exact this
    · rw [List.pairwise_map]
      refine pw.imp fun {u v} le => ?_
      rw [PySem.W.dataLe_eq] at le
      have z : (!PySem.W.dataLt (encH s.heap v) (encH s.heap u)) = true := le
      simpa using z
end
end Lf

set_option maxHeartbeats 4000000
namespace Lf
open PySem PySem.Spec PyProof.Rows L2
/-! ## sorted of data that are alike -/
theorem each_pair {H : Hp} {G : Value → V × PyData → Prop} (k : ∀ v d u, Dd H v d → RelV v u → G u (v, d)) : ∀ {ds : List PyData} {vs : List V} {us : List Value}, DdAll H vs ds → Vals vs us → PySem.W.EachIs G us (vs.zip ds)
  | [], _, _, h, r => by
    cases h
    cases r
    exact .nil
  | _ :: _, _, _, h, r => by
    cases h with
    | cons h1 h2 =>
      cases r with
      | cons r1 r2 => exact .cons (k _ _ _ h1 r1) (each_pair k h2 r2)
theorem vals_each : ∀ {us : List Value} {bs : List (V × PyData)}, PySem.W.EachIs (fun u (b : V × PyData) => RelV b.1 u) us bs → Vals (bs.map (·.1)) us
  | _, _, .nil => .nil
  | _, _, .cons h t => .cons h (vals_each t)
theorem zip_fst {α β : Type} : ∀ (xs : List α) (ys : List β), xs.length = ys.length → (xs.zip ys).map (·.1) = xs
  | [], _, _ => rfl
  | x :: xs, [], h => by cases h
  | x :: xs, y :: ys, h => by
    show x :: (xs.zip ys).map (·.1) = x :: xs
    rw [zip_fst xs ys (by simpa using h)]
theorem zip_snd {α β : Type} : ∀ (xs : List α) (ys : List β), xs.length = ys.length → (xs.zip ys).map (·.2) = ys
  | [], [], _ => rfl
  | [], y :: ys, h => by cases h
  | x :: xs, [], h => by cases h
  | x :: xs, y :: ys, h => by
    show y :: (xs.zip ys).map (·.2) = y :: ys
    rw [zip_snd xs ys (by simpa using h)]
section
variable {X : Cx}
def rSortedR (K : PySem.W.Frag) (rev : Bool) : List V → Hp → VK → Prop := fun vs H Q => ∃ a xs ds, vs = [V.ref a] ∧ SqL K H a xs ∧ DdAll H xs ds ∧ PySem.W.AllAlike ds ∧ PySem.W.Sortable ds ∧ (∀ d ∈ ds, d.depth ≤ 40) ∧
  ∀ p, H p = none → Q (.ref p) (upd H p (.lst (((xs.zip ds).mergeSort (PySem.W.dataLe rev fun b : V × PyData => b.2)).map (·.1))))
theorem cr_sortedD0 (hu : X.A.units + 64 < cLine) : CallR X (.builtin "sorted") (rSortedR X.K false) := by
  intro pins s σ H vs us Q I r h
  obtain ⟨a, xs, ds, rfl, hs, hd, hal, hk, hdep, q⟩ := h
  obtain ⟨its, rv, hl, hz⟩ := I.list hs
  obtain ⟨u, rfl, ru⟩ := vals1 r
  obtain rfl : u = Value.ref a := ru
  have hlen := hd.length
  have e2 := zip_snd xs ds hlen
  have e1 := zip_fst xs ds hlen
  have hbl : (xs.zip ds).length = xs.length := by
    rw [List.length_zip, hlen, Nat.min_self]
  refine PySem.W.sorted_data (enc := fun b : V × PyData => b.2) (R := fun u b => RelV b.1 u) (bs := xs.zip ds) hl.isList (each_pair (H := H) (fun v d u _ r => r) hd rv)
    (each_pair (H := H) (fun v d u h r => Dp.reads I d v u h.dp r) hd rv) (by rw [e2]; exact hal) (by rw [e2]; exact hk) (by rw [hbl]; exact hz) (fun b hb => ?_) fun out ho eo => ?_
  · have hm : b.2 ∈ ds := by
      rw [← e2]
      exact List.mem_map.mpr ⟨b, hb, rfl⟩
    have := hdep _ hm
    omega
  · obtain ⟨ep, he'⟩ := PyProof.Rows.sortedAll_at s.heap its out.toArray
    have hv := vals_each eo
    have hp : (((xs.zip ds).mergeSort (PySem.W.dataLe false fun b : V × PyData => b.2)).map (·.1)).Perm xs := by
      have p1 := (List.mergeSort_perm (xs.zip ds) (PySem.W.dataLe false fun b : V × PyData => b.2)).map (·.1)
      rw [e1] at p1
      exact p1
    refine ⟨.ref _, upd H (s.heap.objs.size + 1) (.lst (((xs.zip ds).mergeSort (PySem.W.dataLe false fun b : V × PyData => b.2)).map (·.1))), I.laid (t' := s.toks) (fun _ _ => PyProof.Rows.sortedAll_old) (Nat.le_succ _) ⟨?_, out, ep, hv, ?_⟩, rfl, q _ (I.hok.fresh (Nat.le_succ _))⟩
    · rw [hp.length_eq]
      exact hz
    · exact he'
def rSortedRK (K : PySem.W.Frag) : List V → List V → Hp → VK → Prop := fun vs zs H Q => ∃ b, zs = [.bl b] ∧ rSortedR K b vs H Q
theorem crk_sortedD (hu : X.A.units + 64 < cLine) : CallRK X (.builtin "sorted") [Str.ofString "reverse"] (rSortedRK X.K) := by
  intro pins s σ H vs zs us ws Q I r r2 h
  obtain ⟨rev, rfl, a, xs, ds, rfl, hs, hd, hal, hk, hdep, q⟩ := h
  obtain ⟨its, rv, hl, hz⟩ := I.list hs
  obtain ⟨u, rfl, ru⟩ := vals1 r
  obtain rfl : u = Value.ref a := ru
  obtain ⟨u2, rfl, ru2⟩ := vals1 r2
  obtain rfl : u2 = Value.bool rev := ru2
  have hlen := hd.length
  have e2 := zip_snd xs ds hlen
  have e1 := zip_fst xs ds hlen
  have hbl : (xs.zip ds).length = xs.length := by
    rw [List.length_zip, hlen, Nat.min_self]
  refine PySem.W.sorted_rev_data (b := rev) (enc := fun b : V × PyData => b.2) (R := fun u b => RelV b.1 u) (bs := xs.zip ds) hl.isList (each_pair (H := H) (fun v d u _ r => r) hd rv)
    (each_pair (H := H) (fun v d u h r => Dp.reads I d v u h.dp r) hd rv) (by rw [e2]; exact hal) (by rw [e2]; exact hk) (by rw [hbl]; exact hz) (fun b hb => ?_) fun out ho eo => ?_
  · have hm : b.2 ∈ ds := by
      rw [← e2]
      exact List.mem_map.mpr ⟨b, hb, rfl⟩
    have := hdep _ hm
    omega
  · obtain ⟨ep, he'⟩ := PyProof.Rows.sortedAll_at s.heap its out.toArray
    have hv := vals_each eo
    have hp : (((xs.zip ds).mergeSort (PySem.W.dataLe rev fun b : V × PyData => b.2)).map (·.1)).Perm xs := by
      have p1 := (List.mergeSort_perm (xs.zip ds) (PySem.W.dataLe rev fun b : V × PyData => b.2)).map (·.1)
      rw [e1] at p1
      exact p1
    refine ⟨.ref _, upd H (s.heap.objs.size + 1) (.lst (((xs.zip ds).mergeSort (PySem.W.dataLe rev fun b : V × PyData => b.2)).map (·.1))), I.laid (t' := s.toks) (fun _ _ => PyProof.Rows.sortedAll_old) (Nat.le_succ _) ⟨?_, out, ep, hv, ?_⟩, rfl, q _ (I.hok.fresh (Nat.le_succ _))⟩
    · rw [hp.length_eq]
      exact hz
    · exact he'
end
theorem lexLt_more (O : PyProof.Rows.KeyOrd) (x : O.α) : ∀ T : List O.α, PyProof.Rows.lexLt O T (T ++ [x]) = true
  | [] => by simp [PyProof.Rows.lexLt]
  | a :: T => by
    have := lexLt_more O x T
    simp only [List.cons_append, PyProof.Rows.lexLt, O.irrefl]
    simpa using this
mutual
/-- numbers, texts, tuples of such -/
def ordD : PyData → Bool
  | .int _ => true
  | .str _ => true
  | .tuple ds => ordDs ds
  | _ => false
def ordDs : List PyData → Bool
  | [] => true
  | d :: ds => ordD d && ordDs ds
end
mutual
theorem eqv_ord : ∀ {d e : PyData}, ordD d = true → ordD e = true → (d.eqv e = true ↔ d = e)
  | .int x, .int y, _, _ => by rw [PyData.eqv]; simp
  | .str x, .str y, _, _ => by rw [PyData.eqv]; simp
  | .tuple ds, .tuple es, h, k => by
    rw [ordD] at h k
    rw [PyData.eqv, eqvs_ord h k]
    constructor
    · rintro rfl; rfl
    · intro z; cases z; rfl
  | .str x, .tuple es, _, _ => by simp [PyData.eqv]
  | .tuple ds, .str y, _, _ => by simp [PyData.eqv]
  | .int x, .tuple es, _, _ => by simp [PyData.eqv]
  | .tuple ds, .int y, _, _ => by simp [PyData.eqv]
  | .int x, .str es, _, _ => by simp [PyData.eqv]
  | .str ds, .int y, _, _ => by simp [PyData.eqv]
  | .none, _, h, _ => by simp [ordD] at h
  | .bool _, _, h, _ => by simp [ordD] at h
  | .list _, _, h, _ => by simp [ordD] at h
  | .dict _, _, h, _ => by simp [ordD] at h
  | _, .none, _, h => by simp [ordD] at h
  | _, .bool _, _, h => by simp [ordD] at h
  | _, .list _, _, h => by simp [ordD] at h
  | _, .dict _, _, h => by simp [ordD] at h
theorem eqvs_ord : ∀ {ds es : List PyData}, ordDs ds = true → ordDs es = true → (PyData.eqvAll ds es = true ↔ ds = es)
  | [], [], _, _ => by simp [PyData.eqvAll]
  | d :: ds, [], _, _ => by simp [PyData.eqvAll]
  | [], e :: es, _, _ => by simp [PyData.eqvAll]
  | d :: ds, e :: es, h, k => by
    rw [ordDs, Bool.and_eq_true] at h k
    rw [PyData.eqvAll, Bool.and_eq_true, eqv_ord h.1 k.1, eqvs_ord h.2 k.2]
    constructor
    · rintro ⟨rfl, rfl⟩; rfl
    · intro z; cases z; exact ⟨rfl, rfl⟩
end
theorem ord_anti {d e : PyData} (kd : ordD d = true) (ke : ordD e = true) (al : PySem.W.alike d e = true) (h1 : PySem.W.dataLt d e = false) (h2 : PySem.W.dataLt e d = false) : d = e := by
  have tk : PySem.W.keyToks d = PySem.W.keyToks e := (PyProof.Rows.listOrd PyProof.Rows.itemOrd).total _ _ h1 h2
  refine Classical.byContradiction fun ne => ?_
  have nv : d.eqv e = false := by
    cases z : d.eqv e with
    | false => rfl
    | true => exact absurd ((eqv_ord kd ke).mp z) ne
  have z := (PySem.W.toks_eqv d e al).2 nv [] [Sum.inl 0]
  rw [tk, List.append_nil, lexLt_more] at z
  have ir := (PyProof.Rows.listOrd PyProof.Rows.itemOrd).irrefl (PySem.W.keyToks e)
  rw [show PyProof.Rows.lexLt PyProof.Rows.itemOrd (PySem.W.keyToks e) (PySem.W.keyToks e) = false from ir] at z
  cases z
theorem lt_irr (d : PyData) : PySem.W.dataLt d d = false := (PyProof.Rows.listOrd PyProof.Rows.itemOrd).irrefl _
theorem lt_trans {a b c : PyData} (h : PySem.W.dataLt a b = true) (k : PySem.W.dataLt b c = true) : PySem.W.dataLt a c = true := (PyProof.Rows.listOrd PyProof.Rows.itemOrd).trans _ _ _ h k
theorem lt_neg {a b c : PyData} (h : PySem.W.dataLt a b = false) (k : PySem.W.dataLt b c = false) : PySem.W.dataLt a c = false := PyProof.Rows.KeyOrd.kle_trans (O := PyProof.Rows.listOrd PyProof.Rows.itemOrd) (a := PySem.W.keyToks c) (b := PySem.W.keyToks b) (c := PySem.W.keyToks a) k h
end Lf
namespace Sm
open PySem PySem.Spec PyProof.Rows L2 Lf
theorem sorted_same {α : Type} {r : α → α → Bool} : ∀ {l m : List α}, l.Perm m → (∀ a ∈ l, ∀ b ∈ l, r a b = false → r b a = false → a = b) → l.Pairwise (fun a b => r b a = false) → m.Pairwise (fun a b => r b a = false) → l = m
  | [], m, p, _, _, _ => (List.Perm.nil_eq p)
  | a :: l, [], p, _, _, _ => absurd p.length_eq (by simp)
  | a :: l, b :: m, p, an, hl, hm => by
    rw [List.pairwise_cons] at hl hm
    have e : a = b := by
      have ha : a ∈ b :: m := p.mem_iff.mp List.mem_cons_self
      have hb : b ∈ a :: l := p.mem_iff.mpr List.mem_cons_self
      rcases List.mem_cons.mp ha with h | h
      · exact h
      · rcases List.mem_cons.mp hb with h' | h'
        · exact h'.symm
        · exact an a List.mem_cons_self b hb (hm.1 a h) (hl.1 b h')
    subst e
    rw [sorted_same (List.Perm.cons_inv p) (fun x hx y hy => an x (List.mem_cons_of_mem _ hx) y (List.mem_cons_of_mem _ hy)) hl.2 hm.2]
/-- before, in the order asked for -/
def befD (rev : Bool) (a b : PyData) : Bool := if rev then PySem.W.dataLt b a else PySem.W.dataLt a b
def insD (rev : Bool) (x : PyData) : List PyData → List PyData
  | [] => [x]
  | y :: ys => if befD rev y x = true then y :: insD rev x ys else x :: y :: ys
def sortD (rev : Bool) (ds : List PyData) : List PyData := ds.foldr (insD rev) []
theorem insD_perm {rev : Bool} {x : PyData} : ∀ {ys : List PyData}, (insD rev x ys).Perm (x :: ys)
  | [] => .refl _
  | y :: ys => by
    unfold insD
    split
    · exact (List.Perm.cons y insD_perm).trans (List.Perm.swap x y ys)
    · exact .refl _
theorem bef_neg {rev : Bool} {a b c : PyData} (h : befD rev a b = false) (k : befD rev b c = false) : befD rev a c = false := by
  cases rev with
  | false => exact lt_neg h k
  | true => exact lt_neg k h
theorem bef_asym {rev : Bool} {a b : PyData} (h : befD rev a b = true) : befD rev b a = false := by
  cases rev with
  | false =>
    cases e : befD false b a with
    | false => rfl
    | true => have := lt_trans h e; rw [lt_irr] at this; cases this
  | true =>
    cases e : befD true b a with
    | false => rfl
    | true => have := lt_trans h e; rw [lt_irr] at this; cases this
theorem insD_up {rev : Bool} {x : PyData} : ∀ {ys : List PyData}, ys.Pairwise (fun a b => befD rev b a = false) → (insD rev x ys).Pairwise (fun a b => befD rev b a = false)
  | [], _ => by simp [insD]
  | y :: ys, h => by
    obtain ⟨h1, h2⟩ := List.pairwise_cons.mp h
    unfold insD
    split
    · rename_i c
      refine List.pairwise_cons.mpr ⟨fun z hz => ?_, insD_up h2⟩
      rcases List.mem_cons.mp (insD_perm.mem_iff.mp hz) with rfl | hz
      · exact bef_asym c
      · exact h1 z hz
    · rename_i c
      rw [Bool.not_eq_true] at c
      refine List.pairwise_cons.mpr ⟨fun z hz => ?_, h⟩
      rcases List.mem_cons.mp hz with rfl | hz
      · exact c
      · exact bef_neg (h1 z hz) c
theorem sortD_perm {rev : Bool} : ∀ (ds : List PyData), (sortD rev ds).Perm ds
  | [] => .refl _
  | d :: ds => insD_perm.trans (List.Perm.cons d (sortD_perm ds))
theorem sortD_up {rev : Bool} : ∀ (ds : List PyData), (sortD rev ds).Pairwise (fun a b => befD rev b a = false)
  | [] => List.Pairwise.nil
  | d :: ds => insD_up (sortD_up ds)
def isTupNe : PyData → Bool
  | .tuple (_ :: _) => true
  | _ => false
def isTupD : PyData → Bool
  | .tuple _ => true
  | _ => false
/-- all can be sorted -/
def sortable (ds : List PyData) : Bool := ds.all (fun d => ordD d && decide (d.depth ≤ 40)) && ds.all (fun d => ds.all fun e => PySem.W.alike d e) && (ds.all isTupNe || ds.all fun d => !isTupD d)
theorem sortable_ord {ds : List PyData} (h : sortable ds = true) : ∀ d ∈ ds, ordD d = true ∧ d.depth ≤ 40 := by
  unfold sortable at h
  simp only [Bool.and_eq_true, List.all_eq_true, decide_eq_true_eq] at h
  exact fun d hd => h.1.1 d hd
theorem sortable_alike {ds : List PyData} (h : sortable ds = true) : PySem.W.AllAlike ds := by
  unfold sortable at h
  simp only [Bool.and_eq_true, List.all_eq_true, decide_eq_true_eq] at h
  exact fun d hd e he => h.1.2 d hd e he
theorem sortable_kind {ds : List PyData} (h : sortable ds = true) : PySem.W.Sortable ds := by
  have ho := sortable_ord h
  unfold sortable at h
  simp only [Bool.and_eq_true, Bool.or_eq_true, List.all_eq_true] at h
  rcases h.2 with k | k
  · refine .inl fun d hd => ?_
    have := k d hd
    match d, this with
    | .tuple (x :: r), _ => exact ⟨x, r, rfl⟩
  · refine .inr fun d hd => ⟨fun z => ?_, fun xs z => ?_⟩
    · have := (ho d hd).1; rw [z] at this; cases this
    · have := k d hd; rw [z] at this; cases this
theorem sortable_perm {ds es : List PyData} (p : ds.Perm es) (h : sortable ds = true) : sortable es = true := by
  unfold sortable at h ⊢
  simp only [Bool.and_eq_true, Bool.or_eq_true, List.all_eq_true] at h ⊢
  exact ⟨⟨fun d hd => h.1.1 d (p.mem_iff.mpr hd), fun d hd e he => h.1.2 d (p.mem_iff.mpr hd) e (p.mem_iff.mpr he)⟩, h.2.imp (fun k d hd => k d (p.mem_iff.mpr hd)) fun k d hd => k d (p.mem_iff.mpr hd)⟩
theorem bef_anti {rev : Bool} {ds : List PyData} (h : sortable ds = true) : ∀ a ∈ ds, ∀ b ∈ ds, befD rev a b = false → befD rev b a = false → a = b := fun a ha b hb h1 h2 => by
  have o1 := sortable_ord h a ha
  have o2 := sortable_ord h b hb
  have al := sortable_alike h a ha b hb
  cases rev with
  | false => exact ord_anti o1.1 o2.1 al h1 h2
  | true => exact ord_anti o1.1 o2.1 al h2 h1
/-- what the library's sort makes of values with their data -/
theorem merge_sortD {rev : Bool} {xs : List V} {ds : List PyData} (hl : xs.length = ds.length) (h : sortable ds = true) : ((xs.zip ds).mergeSort (PySem.W.dataLe rev fun b : V × PyData => b.2)).map (·.2) = sortD rev ds := by
  have e2 := zip_snd xs ds hl
  have p1 := (List.mergeSort_perm (xs.zip ds) (PySem.W.dataLe rev fun b : V × PyData => b.2)).map (·.2)
  rw [e2] at p1
  refine sorted_same (r := befD rev) (p1.trans (sortD_perm ds).symm) (bef_anti (sortable_perm p1.symm h)) ?_ (sortD_up ds)
  have T := PySem.W.sortLe_total (PyProof.Rows.listOrd PyProof.Rows.itemOrd) rev (fun b : V × PyData => PySem.W.keyToks b.2)
  have s1 := List.pairwise_mergeSort (le := PySem.W.dataLe rev fun b : V × PyData => b.2) (fun a b c h1 h2 => T.trans a b c h1 h2) (fun a b => by
    have := T.total a b
    unfold PySem.W.dataLe
    simpa using this) (xs.zip ds)
  rw [List.pairwise_map]
  refine s1.imp fun {a b} hab => ?_
  cases rev with
  | false =>
    have : (!PySem.W.dataLt b.2 a.2) = true := hab
    simpa [befD] using this
  | true =>
    have : (!PySem.W.dataLt a.2 b.2) = true := hab
    simpa [befD] using this
theorem DvA.of_zip {cm : CM} {H : Hp} : ∀ {bs : List (V × PyData)}, (∀ b ∈ bs, Dv cm H b.1 b.2) → DvA cm H (bs.map (·.1)) (bs.map (·.2))
  | [], _ => .nil
  | b :: bs, h => .cons (h b List.mem_cons_self) (DvA.of_zip fun c hc => h c (List.mem_cons_of_mem _ hc))
theorem DvA.zip {cm : CM} {H : Hp} : ∀ {ds : List PyData} {xs : List V}, DvA cm H xs ds → ∀ b ∈ xs.zip ds, Dv cm H b.1 b.2
  | [], _, h, b, hb => by cases h; cases hb
  | _ :: _, _, h, b, hb => by
    cases h with
    | cons h1 h2 =>
      rcases List.mem_cons.mp hb with rfl | hb
      · exact h1
      · exact DvA.zip h2 b hb
mutual
theorem ordD_plain : ∀ {d : PyData}, ordD d = true → plainD d = true
  | .int _, _ => rfl
  | .str _, _ => rfl
  | .tuple ds, h => by
    rw [plainD]
    exact ordDs_plain (by rw [ordD] at h; exact h)
  | .none, h => by simp [ordD] at h
  | .bool _, h => by simp [ordD] at h
  | .list _, h => by simp [ordD] at h
  | .dict _, h => by simp [ordD] at h
theorem ordDs_plain : ∀ {ds : List PyData}, ordDs ds = true → plainDs ds = true
  | [], _ => rfl
  | d :: ds, h => by
    rw [ordDs, Bool.and_eq_true] at h
    rw [plainDs, ordD_plain h.1, ordDs_plain h.2]
    rfl
end
theorem plains_of : ∀ {ds : List PyData}, (∀ d ∈ ds, plainD d = true) → plainDs ds = true
  | [], _ => rfl
  | d :: ds, h => by rw [plainDs, h d List.mem_cons_self, plains_of fun e he => h e (List.mem_cons_of_mem _ he)]; rfl
/-- sorted(x), sorted(x, reverse=True) -/
def fSortD (rev : Bool) : PyData → Option PyData
  | .list ds => if sortable ds then some (.list (sortD rev ds)) else none
  | _ => none
def fSortedL : List PyData → Option PyData
  | [d] => fSortD false d
  | _ => none
section
variable {X : Cx} {cm : CM} {W : WX}
theorem sortD_red {rev : Bool} {K : PySem.W.Frag} {A : List Addr} {S : Sto} {D : Hp} {F : List (Addr × HO)} {H : Hp} {v : V} {d c : PyData} {Q : VK} (w : Wd cm A S D F H) (hv : Dw cm D H v d) (e : fSortD rev d = some c)
    (q : ∀ D' H' w, Wd cm A S D' F H' → Same D D' → Dv cm D' w c → Q w H') : rSortedR K rev [v] H Q := by
  unfold fSortD at e
  split at e
  · rename_i ds
    split at e
    · rename_i hs
      cases e
      obtain ⟨a, xs, rfl, h1, h2⟩ := hv.lst w.sub
      have ho := sortable_ord hs
      have hp : plainDs ds = true := plains_of fun d hd => ordD_plain (ho d hd).1
      refine ⟨a, xs, ds, rfl, .of h1, (h2.mono w.sub).dd hp, sortable_alike hs, sortable_kind hs, fun d hd => (ho d hd).2, fun p np => ?_⟩
      obtain ⟨w', s'⟩ := w.new np (.lst (((xs.zip ds).mergeSort (PySem.W.dataLe rev fun b : V × PyData => b.2)).map (·.1)))
      refine q _ _ _ w' s' (.lst upd_same ?_)
      have k : DvA cm D (((xs.zip ds).mergeSort (PySem.W.dataLe rev fun b : V × PyData => b.2)).map (·.1)) (((xs.zip ds).mergeSort (PySem.W.dataLe rev fun b : V × PyData => b.2)).map (·.2)) :=
        DvA.of_zip fun b hb => h2.zip b ((List.mergeSort_perm _ _).mem_iff.mp hb)
      rw [merge_sortD h2.length hs] at k
      exact k.mono s'
    · cases e
  · cases e
theorem c_sortedL {k : Nat} (hr : Room k X.A) : Ca X cm (.builtin "sorted") fSortedL := ⟨_, cr_sortedD0 hr.units, fun A S D F H xs as c Q w hx e q => by
  unfold fSortedL at e
  split at e
  · obtain ⟨v, rfl, hv⟩ := dwA1 hx
    exact sortD_red w hv e q
  · cases e⟩
/-- numbers and texts by their own sorts, all else by the general one -/
def fSortedB (l : List PyData) : Option PyData := match fSortedI l with
  | some c => some c
  | none => match fSortedT l with
    | some c => some c
    | none => fSortedL l
theorem Ca.or {g : Value} {f f' : List PyData → Option PyData} (h : Ca X cm g f) (h' : Ca X cm g f') : Ca X cm g (fun l => match f l with
  | some c => some c
  | none => f' l) := by
  obtain ⟨r, h1, h2⟩ := h
  obtain ⟨r', h3, h4⟩ := h'
  refine ⟨fun vs H Q => r vs H Q ∨ r' vs H Q, fun pins s σ H xs us Q I rr h => h.elim (h1 pins s σ H xs us Q I rr) (h3 pins s σ H xs us Q I rr), fun A S D F H xs as c Q w hx e q => ?_⟩
  dsimp only at e
  split at e
  · rename_i c' e'
    cases e
    exact .inl (h2 _ _ _ _ _ _ _ _ _ w hx e' q)
  · exact .inr (h4 _ _ _ _ _ _ _ _ _ w hx e q)
theorem c_sortedB {k : Nat} (hr : Room k X.A) : Ca X cm (.builtin "sorted") fSortedB := c_sortedI.or (c_sortedT.or (c_sortedL hr))
variable {e : Expr} {f : Ex} {p1 pos cp kp : Pos}
theorem g_sortedR {k : Nat} {j} {b : Bool} (hr : Room k X.A) (hc : X.calm = true) (mm : X.mg "sorted" = none) (he : GE X cm W e f) (g1 : Gl X "sorted" := by rfl)
    (he2 : backTo pos (starEach [e] X.env) = (false, eval e X.env) :: backTo pos (starEach [] X.env) := by rfl) (hpl : (backTo pos (starEach [e] X.env)).any (·.1) = false := by rfl) (hs : starEach [e] X.env = (false, eval e X.env) :: starEach [] X.env := by rfl)
    (hall : (backToKw pos (keywordEach [⟨some "reverse", .Constant (.bool b) j cp, kp⟩] X.env)).all (·.1.isSome) = true := by rfl) (hnone : (backToKw pos (keywordEach [⟨some "reverse", .Constant (.bool b) j cp, kp⟩] X.env)).any (·.1.isNone) = false := by rfl) (hks : (backToKw pos (keywordEach [⟨some "reverse", .Constant (.bool b) j cp, kp⟩] X.env)).filterMap (·.1) = ([(Str.ofString "reverse")] : List Str) := by rfl) :
    GE X cm W (.Call (.Name "sorted" p1) [e] [⟨some "reverse", .Constant (.bool b) j cp, kp⟩] pos) (e1 (lift1 (fSortD b)) f) :=
  pe_imp (pe_callBK (crk_sortedD hr.units) g1 mm (by decide +kernel) (pa_cons he pa_nil hs) (pk_cons pe_bl pk_nil) (by decide) (by decide) he2 hpl hall hnone hks) fun σ H Q ⟨p, ok, h⟩ => ⟨p, ok, (fin.bind h).imp (fun x S1 D1 H1 w s k v r => by
    obtain ⟨a, c, h1, h2, h3⟩ := lift1_inv k
    have hx := view_dw w h1 r
    exact ⟨b, rfl, sortD_red w hx h2 fun D' H' u w' s' hv => h3 D' H' w' s' u hv⟩) fun _ _ _ _ _ _ z => z⟩
end
end Sm

set_option maxHeartbeats 4000000
namespace Sm
open PySem PySem.Spec PyProof.Rows L2 Lf

/-! ## sorted(set(x)) -/
def insTU (x : Str) : List Str → List Str
  | [] => [x]
  | y :: ys => if ltB y x = true then y :: insTU x ys else if x = y then y :: ys else x :: y :: ys
def ascT (xs : List Str) : List Str := xs.foldr insTU []
theorem mem_insTU {x z : Str} : ∀ {ys : List Str}, z ∈ insTU x ys ↔ z = x ∨ z ∈ ys
  | [] => by simp [insTU]
  | y :: ys => by
    unfold insTU
    split
    · rw [List.mem_cons, mem_insTU, List.mem_cons]
      constructor
      · rintro (h | h | h) <;> simp [h]
      · rintro (h | h | h) <;> simp [h]
    · split
      · rename_i h
        subst h
        simp
      · simp
theorem mem_ascT {z : Str} : ∀ {xs : List Str}, z ∈ ascT xs ↔ z ∈ xs
  | [] => Iff.rfl
  | x :: xs => by
    show z ∈ insTU x (ascT xs) ↔ _
    rw [mem_insTU, mem_ascT, List.mem_cons]
theorem ltB_irr (x : Str) : ltB x x = false := decide_eq_false (List.lt_irrefl _)
theorem leT_ne {x y : Str} (h : ltB y x = false) (ne : x ≠ y) : ltB x y = true := by
  cases e : ltB x y with
  | true => rfl
  | false => exact absurd (LeT.anti e h) ne
theorem ltB_trans {x y z : Str} (h : ltB x y = true) (k : ltB y z = true) : ltB x z = true := decide_eq_true (List.lt_trans (of_decide_eq_true h) (of_decide_eq_true k))
theorem insTU_up {x : Str} : ∀ {ys : List Str}, ys.Pairwise (fun a b => ltB a b = true) → (insTU x ys).Pairwise (fun a b => ltB a b = true)
  | [], _ => by simp [insTU]
  | y :: ys, h => by
    obtain ⟨h1, h2⟩ := List.pairwise_cons.mp h
    unfold insTU
    split
    · rename_i c
      refine List.pairwise_cons.mpr ⟨fun z hz => ?_, insTU_up h2⟩
      rcases mem_insTU.mp hz with rfl | hz
      · exact c
      · exact h1 z hz
    · split
      · exact h
      · rename_i c ne
        rw [Bool.not_eq_true] at c
        have c' := leT_ne c ne
        refine List.pairwise_cons.mpr ⟨fun z hz => ?_, h⟩
        rcases List.mem_cons.mp hz with rfl | hz
        · exact c'
        · exact ltB_trans c' (h1 z hz)
theorem ascT_up : ∀ (xs : List Str), (ascT xs).Pairwise (fun a b => ltB a b = true)
  | [] => List.Pairwise.nil
  | x :: xs => insTU_up (ascT_up xs)
theorem ascT_nd (xs : List Str) : (ascT xs).Nodup := (ascT_up xs).imp fun {a b} h e => by rw [e, ltB_irr] at h; cases h
theorem ascT_le (xs : List Str) : (ascT xs).Pairwise LeT := (ascT_up xs).imp fun {a b} h => leT_of_lt h
theorem ltS_B (x y : Str) : ltS x y = ltB x y := by
  unfold ltS PySem.W.dataLt ltB
  rw [PySem.W.keyToks, PySem.W.keyToks]
  show (PyProof.Rows.itemOrd.blt (.inr _) (.inr _) || (!PyProof.Rows.itemOrd.blt (.inr _) (.inr _) && false)) = _
  rw [Bool.and_false, Bool.or_false]
  rfl
theorem ascT_of {ts ys ss : List Str} (nd : ts.Nodup) (hm : ∀ x, x ∈ ts ↔ x ∈ ss) (p : ys.Perm ts) (up : ys.Pairwise fun x y => ltS y x = false) : ys = ascT ss := by
  refine leT_unique (up.imp fun {a b} h => by rw [ltS_B] at h; exact h) (ascT_le ss) ((List.perm_ext_iff_of_nodup (p.nodup_iff.mpr nd) (ascT_nd ss)).mpr fun x => ?_)
  rw [p.mem_iff, hm, mem_ascT]
/-! tuples of texts -/
def insA (x : PyData) : List PyData → List PyData
  | [] => [x]
  | y :: ys => if PySem.W.dataLt y x = true then y :: insA x ys else if PySem.W.dataLt x y = true then x :: y :: ys else y :: ys
def ascD (ds : List PyData) : List PyData := ds.foldr insA []
theorem mem_insA {x z : PyData} : ∀ {ys : List PyData}, z ∈ insA x ys → z = x ∨ z ∈ ys
  | [], h => by simpa [insA] using h
  | y :: ys, h => by
    unfold insA at h
    split at h
    · rcases List.mem_cons.mp h with h | h
      · exact .inr (by rw [h]; exact List.mem_cons_self)
      · exact (mem_insA h).imp id (List.mem_cons_of_mem _)
    · split at h
      · exact List.mem_cons.mp h
      · exact .inr h
theorem mem_insA' {x z : PyData} : ∀ {ys : List PyData}, z ∈ ys → z ∈ insA x ys
  | y :: ys, h => by
    unfold insA
    split
    · rcases List.mem_cons.mp h with h | h
      · rw [h]; exact List.mem_cons_self
      · exact List.mem_cons_of_mem _ (mem_insA' h)
    · split
      · exact List.mem_cons_of_mem _ h
      · exact h
theorem self_insA {x : PyData} : ∀ {ys : List PyData}, (∀ y ∈ ys, PySem.W.dataLt y x = false → PySem.W.dataLt x y = false → x = y) → x ∈ insA x ys
  | [], _ => List.mem_cons_self
  | y :: ys, an => by
    unfold insA
    split
    · exact List.mem_cons_of_mem _ (self_insA fun z hz => an z (List.mem_cons_of_mem _ hz))
    · rename_i c1
      split
      · exact List.mem_cons_self
      · rename_i c2
        rw [an y List.mem_cons_self (by simpa using c1) (by simpa using c2)]
        exact List.mem_cons_self
theorem mem_ascD_of {z : PyData} : ∀ {ds : List PyData}, z ∈ ascD ds → z ∈ ds
  | [], h => h
  | d :: ds, h => by
    rcases mem_insA (show z ∈ insA d (ascD ds) from h) with e | h
    · rw [e]; exact List.mem_cons_self
    · exact List.mem_cons_of_mem _ (mem_ascD_of h)
theorem mem_ascD {z : PyData} : ∀ {ds : List PyData}, (∀ a ∈ ds, ∀ b ∈ ds, PySem.W.dataLt a b = false → PySem.W.dataLt b a = false → a = b) → z ∈ ds → z ∈ ascD ds
  | d :: ds, an, h => by
    show z ∈ insA d (ascD ds)
    rcases List.mem_cons.mp h with e | h
    · rw [e]
      exact self_insA fun y hy h1 h2 => an d List.mem_cons_self y (List.mem_cons_of_mem _ (mem_ascD_of hy)) h2 h1
    · exact mem_insA' (mem_ascD (fun a ha b hb => an a (List.mem_cons_of_mem _ ha) b (List.mem_cons_of_mem _ hb)) h)
theorem insA_up {x : PyData} : ∀ {ys : List PyData}, ys.Pairwise (fun a b => PySem.W.dataLt a b = true) → (insA x ys).Pairwise (fun a b => PySem.W.dataLt a b = true)
  | [], _ => by simp [insA]
  | y :: ys, h => by
    obtain ⟨h1, h2⟩ := List.pairwise_cons.mp h
    unfold insA
    split
    · rename_i c
      refine List.pairwise_cons.mpr ⟨fun z hz => ?_, insA_up h2⟩
      rcases mem_insA hz with rfl | hz
      · exact c
      · exact h1 z hz
    · split
      · rename_i c
        refine List.pairwise_cons.mpr ⟨fun z hz => ?_, h⟩
        rcases List.mem_cons.mp hz with rfl | hz
        · exact c
        · exact lt_trans c (h1 z hz)
      · exact h
theorem ascD_up : ∀ (ds : List PyData), (ascD ds).Pairwise (fun a b => PySem.W.dataLt a b = true)
  | [] => List.Pairwise.nil
  | x :: xs => insA_up (ascD_up xs)
theorem ascD_of {ds es : List PyData} (h : sortable ds = true) (nd : es.Nodup) (hm : ∀ d, d ∈ es ↔ d ∈ ds) (up : es.Pairwise fun a b => PySem.W.dataLt b a = false) : es = ascD ds := by
  have an := bef_anti (rev := false) h
  refine sorted_same (r := PySem.W.dataLt) ((List.perm_ext_iff_of_nodup nd ((ascD_up ds).imp fun {a b} h e => by rw [e, lt_irr] at h; cases h)).mpr fun x => ?_) (fun a ha b hb => an a ((hm a).mp ha) b ((hm b).mp hb)) up ((ascD_up ds).imp fun {a b} h => bef_asym (rev := false) h)
  exact ⟨fun hx => mem_ascD an ((hm x).mp hx), fun hx => (hm x).mpr (mem_ascD_of hx)⟩
mutual
theorem dd_unique {H : Hp} : ∀ {d e : PyData} {v : V}, Dd H v d → Dd H v e → d = e
  | .none, _, _, h, k => by cases h; cases k; rfl
  | .bool _, _, _, h, k => by cases h; cases k; rfl
  | .int _, _, _, h, k => by cases h; cases k; rfl
  | .str _, _, _, h, k => by cases h; cases k; rfl
  | .list ds, _, _, h, k => by
    cases h with
    | lst h1 h2 =>
      cases k with
      | lst k1 k2 =>
        rw [h1] at k1
        cases k1
        rw [ddAll_unique h2 k2]
      | tup k1 k2 => rw [h1] at k1; cases k1
  | .tuple ds, _, _, h, k => by
    cases h with
    | tup h1 h2 =>
      cases k with
      | tup k1 k2 =>
        rw [h1] at k1
        cases k1
        rw [ddAll_unique h2 k2]
      | lst k1 k2 => rw [h1] at k1; cases k1
  | .dict _, _, _, h, _ => by cases h
theorem ddAll_unique {H : Hp} : ∀ {ds es : List PyData} {vs : List V}, DdAll H vs ds → DdAll H vs es → ds = es
  | [], _, _, h, k => by cases h; cases k; rfl
  | _ :: _, _, _, h, k => by
    cases h with
    | cons h1 h2 =>
      cases k with
      | cons k1 k2 => rw [dd_unique h1 k1, ddAll_unique h2 k2]
end
def keyTB (ds : List PyData) : Bool := ds.all fun d => isTup d && keyD d && decide (d.depth ≤ 6)
def ssB (ds : List PyData) : Option (List PyData) := match ssL ds with
  | some es => some es
  | none => match asStrs ds with
    | some ns => if ns.length ≤ 4000 then some ((ascT ns).map PyData.str) else none
    | none => if keyTB ds && sortable ds && decide (ds.length < 64) then some (ascD ds) else none
def ssA : PyData → Option PyData
  | .list ds => match ssB ds with
    | some es => some (.list es)
    | none => none
  | .tuple ds => match ssB ds with
    | some es => some (.list es)
    | none => none
  | _ => none
section
variable {X : Cx} {cm : CM} {W : WX} {e : Expr} {f : Ex} {p1 p2 pos pos2 : Pos}
theorem Wd.grow {A : List Addr} {S : Sto} {D : Hp} {F : List (Addr × HO)} {H H' : Hp} (w : Wd cm A S D F H) (s : Same H H') : Wd cm A S D F H' :=
  ⟨fun a o h => s _ _ (w.sub _ _ h), fun p hp => let ⟨h1, h2, h3⟩ := w.frs p hp; ⟨s _ _ h1, h2, h3⟩, w.ndF, fun n ds h => let ⟨a, xs, h1, h2, h3⟩ := w.cel n ds h; ⟨a, xs, h1, s _ _ h2, h3⟩, w.out, w.ndA, w.len⟩
def orTA (r r' : List V → Hp → VK → Prop) : List V → Hp → VK → Prop := fun vs H Q => r vs H Q ∨ r' vs H Q
theorem CallR.or {g : Value} {r r' : List V → Hp → VK → Prop} (h : CallR X g r) (h' : CallR X g r') : CallR X g (orTA r r') := fun pins s σ H xs us Q I rr q => q.elim (h pins s σ H xs us Q I rr) (h' pins s σ H xs us Q I rr)
theorem Dw.seqD {K : PySem.W.Frag} {D H : Hp} {v : V} {ds : List PyData} (s : Same D H) (h : Dw cm D H v (.list ds) ∨ Dw cm D H v (.tuple ds)) : ∃ a xs, v = .ref a ∧ (SqL K H a xs ∨ SqT K H a xs) ∧ DvA cm D xs ds := by
  rcases h with h | h
  · obtain ⟨a, xs, rfl, h1, h2⟩ := h.lst s
    exact ⟨a, xs, rfl, .inl (.of h1), h2⟩
  · obtain ⟨a, xs, rfl, h1, h2⟩ := h.tup
    exact ⟨a, xs, rfl, .inr (.of (s _ _ h1)), h2⟩
theorem ssA_inv {a c : PyData} (e : ssA a = some c) : ∃ ds es, (a = .list ds ∨ a = .tuple ds) ∧ ssB ds = some es ∧ c = .list es := by
  unfold ssA at e
  split at e
  · split at e
    · cases e; exact ⟨_, _, .inl rfl, ‹_›, rfl⟩
    · cases e
  · split at e
    · cases e; exact ⟨_, _, .inr rfl, ‹_›, rfl⟩
    · cases e
  · cases e
theorem g_ssA {k : Nat} (hr : Room k X.A) (hc : X.calm = true) (ms : X.mg "sorted" = none) (mt : X.mg "set" = none) (he : GE X cm W e f) (g1 : Gl X "sorted" := by rfl) (g2 : Gl X "set" := by rfl) (hs : starEach [e] X.env = (false, eval e X.env) :: starEach [] X.env := by rfl)
    (hs2 : starEach [Expr.Call (.Name "set" p2) [e] [] pos2] X.env = (false, eval (.Call (.Name "set" p2) [e] [] pos2) X.env) :: starEach [] X.env := by rfl) (hpl : (backTo pos (starEach [] X.env)).any (·.1) = false := by rfl) (hpl2 : (backTo pos2 (starEach [] X.env)).any (·.1) = false := by rfl) :
    GE X cm W (.Call (.Name "sorted" p1) [.Call (.Name "set" p2) [e] [] pos2] [] pos) (e1 (lift1 ssA) f) := by
  have hu : X.A.units + 64 < cLine := hr.units
  refine pe_imp (pe_callB ((cr_sortedSet hc).or ((cr_sortedSt hc hu).or (cr_sortedDS hc hu))) g1 ms (by decide +kernel) (pa_cons (pe_callTy ((cr_setOfI hc).or ((cr_setOfS hc).or (cr_setOfD hc hu))) g2 mt (by decide +kernel) (pa_cons he pa_nil hs) (by decide) (by decide) hs hpl2) pa_nil hs2) (by decide) (by decide) hs2 hpl) fun σ H Q ⟨p, ok, h⟩ => ⟨p, ok, (fin.bind h).imp (fun x S1 D1 H1 w s k v r => ?_) fun _ _ _ _ _ _ z => z⟩
  obtain ⟨a, c, h1, h2, h3⟩ := lift1_inv k
  have hx := view_dw w h1 r
  obtain ⟨ds, es, ha, hb, rfl⟩ := ssA_inv h2
  have hx' : Dw cm D1 H1 v (.list ds) ∨ Dw cm D1 H1 v (.tuple ds) := by
    rcases ha with rfl | rfl
    · exact .inl hx
    · exact .inr hx
  have fin2 : ∀ (a p2 : Addr) (o : HO) (xs : List V) (es : List PyData), H1 a = none → upd H1 a o p2 = none → DvA cm D1 xs es → (∀ D' H', Wd cm p.A S1 D' (p.Ow ++ p.Fr) H' → Same D1 D' → ∀ u, VR cm p.A D' p.Ow (.d (.list es)) u → Q u H') → Q (.ref p2) (upd (upd H1 a o) p2 (.lst xs)) := fun a p2 o xs es na np hd q => by
    have w1 := w.newF na o
    obtain ⟨w2, s2⟩ := w1.new np (.lst xs)
    have w3 : Wd cm p.A S1 (upd D1 p2 (.lst xs)) (p.Ow ++ p.Fr) (upd (upd H1 a o) p2 (.lst xs)) := w2.drop (Ow := [])
    exact q _ _ w3 s2 _ (.lst upd_same (hd.mono s2))
  obtain ⟨q, xs, rfl, h4, h5⟩ := Dw.seqD (K := X.K) w.sub hx'
  unfold ssB at hb
  split at hb
  · rename_i es' e1
    cases hb
    unfold ssL at e1
    split at e1
    · rename_i hl
      split at e1
      · rename_i ns e2
        cases e1
        obtain rfl := asInts_eq e2
        rw [dvA_ints h5] at h4
        rw [List.length_map] at hl
        refine .inl ⟨q, ns, rfl, h4, by show _ < 4096; omega, fun a T n na hn hT => .inl ?_⟩
        refine ⟨a, T, n, rfl, upd_same, by omega, fun ms p2 up hm _ np => ?_⟩
        rw [up_unique up (ascI_up ns) fun z => (hm z).trans ((hT z).trans mem_ascI.symm)]
        exact fin2 _ _ _ _ _ na np (DvA.ints _) h3
      · cases e1
    · cases e1
  · split at hb
    · rename_i ns e2
      split at hb
      · rename_i hl
        cases hb
        obtain rfl := asStrs_eq e2
        rw [dvA_strs h5] at h4
        refine .inr (.inl ⟨q, ns, rfl, h4, by show _ < 4096; omega, fun a ts na nd hm => .inr (.inl ?_)⟩)
        refine ⟨a, ts, rfl, upd_same, fun ys p2 pm up np => ?_⟩
        rw [ascT_of nd hm pm up]
        exact fin2 _ _ _ _ _ na np (DvA.strs _) h3
      · cases hb
    · split at hb
      · rename_i hk
        cases hb
        simp only [Bool.and_eq_true, decide_eq_true_eq] at hk
        obtain ⟨⟨hk1, hk2⟩, hk3⟩ := hk
        have kt : ∀ d ∈ ds, KeyT d := fun d hd => by
          have := List.all_eq_true.mp hk1 d hd
          simp only [Bool.and_eq_true, decide_eq_true_eq] at this
          exact ⟨this.1.1, this.1.2, by omega⟩
        have hp : plainDs ds = true := plains_of fun d hd => ordD_plain (sortable_ord hk2 d hd).1
        have hdd := (h5.mono w.sub).dd hp
        refine .inr (.inr ⟨q, xs, ds, rfl, h4, hdd, kt, hk3, fun a L na nd hL hds => .inr (.inr ?_)⟩)
        have sn := same_new na (SetDO X.w a L)
        have hmem : ∀ d, d ∈ L.map (·.2) ↔ d ∈ ds := fun d => ⟨fun h => by obtain ⟨p, hp, rfl⟩ := List.mem_map.mp h; exact (hL p hp).2.2.2, hds d⟩
        have srt : sortable (L.map (·.2)) = true := by
          unfold sortable at hk2 ⊢
          simp only [Bool.and_eq_true, Bool.or_eq_true, List.all_eq_true] at hk2 ⊢
          exact ⟨⟨fun d hd => hk2.1.1 d ((hmem d).mp hd), fun d hd e he => hk2.1.2 d ((hmem d).mp hd) e ((hmem e).mp he)⟩, hk2.2.imp (fun k d hd => k d ((hmem d).mp hd)) fun k d hd => k d ((hmem d).mp hd)⟩
        refine ⟨a, L, rfl, upd_same, fun p hp => ⟨(hL p hp).1.mono sn, (hL p hp).2.1⟩, sortable_alike srt, sortable_kind srt, fun L' p2 pm hl up np => ?_⟩
        have e3 : L'.map (·.2) = ascD ds := by
          refine ascD_of hk2 ((pm.map (·.2)).nodup_iff.mpr nd) (fun d => ?_) (List.pairwise_map.mpr up)
          rw [(pm.map (·.2)).mem_iff]
          exact hmem d
        have hd3 : DvA cm D1 (L'.map fun q => V.ref q.1) (ascD ds) := by
          rw [← e3]
          have : ∀ b ∈ L', Dv cm D1 (.ref b.1) b.2 := fun b hb => by
            obtain ⟨g1, g2, g3, g4⟩ := hL b (pm.mem_iff.mp hb)
            -- the same address stands in the list that was read, as data of D1
            have key : ∀ {ds : List PyData} {vs : List V}, DvA cm D1 vs ds → DdAll H1 vs ds → V.ref b.1 ∈ vs → ∃ d, Dv cm D1 (.ref b.1) d ∧ Dd H1 (.ref b.1) d ∧ d ∈ ds := by
              intro ds
              induction ds with
              | nil => intro vs h h' hm; cases h; cases hm
              | cons d ds ih =>
                intro vs h h' hm
                cases h with
                | cons a1 a2 =>
                  cases h' with
                  | cons b1 b2 =>
                    rcases List.mem_cons.mp hm with e | hm
                    · rw [e]; exact ⟨d, a1, b1, List.mem_cons_self⟩
                    · obtain ⟨d', c1, c2, c3⟩ := ih a2 b2 hm
                      exact ⟨d', c1, c2, List.mem_cons_of_mem _ c3⟩
            obtain ⟨d', c1, c2, c3⟩ := key h5 hdd g3
            rwa [dd_unique g1 c2]
          clear e3 up pm hl
          induction L' with
          | nil => exact .nil
          | cons b L' ih => exact .cons (this b List.mem_cons_self) (ih fun c hc => this c (List.mem_cons_of_mem _ hc))
        exact fin2 _ _ _ _ _ na np hd3 h3
      · cases hb
end
end Sm

set_option maxHeartbeats 4000000
namespace Lf
open PySem PySem.Spec PyProof.Rows L2

/-! ## enumerate of a text -/
def ItEs (z : Str) : It :=
  ⟨fun i _ => i < z.cps.size,
    fun i H v H' => ∃ T c, v = .ref T ∧ H T = none ∧ H' = upd H T (.tup [.int (i : Nat), .str ⟨#[c]⟩]) ∧ z.cps[i]? = some c,
    fun i _ => z.cps.size = i⟩
theorem turn_enumS {P : Program} {w : World} {K : PySem.W.Frag} {elts : List Expr} {kk : Nat} {tpos : Pos} (z : Str) (t : Tok) (ty : String) (hty : ty = "str_ascii_iterator" ∨ ty = "str_iterator") (e it : Addr) :
    Turn P w K (.Tuple elts kk tpos) (ItEs z) [e, it] e (fun i h => (∃ old, IsEnum h e it ((i : Nat) : Int) old) ∧ h.IsStrIter it ty z t i ∧ e ≠ it) where
  mem := by simp
  obj := fun i h st b hb => by
    obtain ⟨⟨old, he⟩, ⟨o, ho, hc, hd⟩, _⟩ := st
    have e' : b = e ∨ b = it := by simpa using hb
    rcases e' with z | z
    · exact z ▸ ⟨_, he, fun v q => nomatch q⟩
    · exact z ▸ ⟨o, ho, fun v q => by rw [hd] at q; cases q⟩
  keep := fun i h h' st k => ⟨st.1.imp fun old he => k e (by simp) _ he, (let ⟨o, ho, r⟩ := st.2.1; ⟨o, k it (by simp) o ho, r⟩), st.2.2⟩
  item := by
    intro X hP hw hK hc i pins s σ H E I hf st hg
    subst hP hw hK
    obtain ⟨⟨old, he⟩, hit, hne⟩ := st
    have hel : e < s.heap.objs.size := Heap.lt_size he
    have hil : it < s.heap.objs.size := let ⟨_, q, _⟩ := hit; Heap.lt_size q
    have D : Draws X.prog X.w X.A.in1 it [it] z.cps.size (fun i v => ∃ c u, z.cps[i]? = some c ∧ v = .str ⟨#[c]⟩ u) (fun i h => h.IsStrIter it ty z t i) := by
      rcases hty with e | e
      · rw [e]; exact Draws.strAscii (A := X.A.in1) (I.ok.hd hc) it z t
      · rw [e]; exact Draws.strWide (A := X.A.in1) (I.ok.hd hc) it z t
    refine wpAny_pyNext_enum_itemD D he hit hg hne (by simp [hne]) fun y h' tk hy ho hs' hT3 hsz hk => ?_
    obtain ⟨c, u, hcx, rfl⟩ := hy
    refine ⟨_, rfl, wpAny_letOwnedTupleGo_enum (s := { s with heap := h', toks := tk + 1 }) ho fun h'' he' sb => ?_⟩
    have hT2 : h''.get? s.heap.objs.size = some { cls := .type "tuple", data := .seq #[.int i tk, .str ⟨#[c]⟩ u] } := (sb.2 _ (Nat.ne_of_gt hel)).trans hT3
    have I1 : L2.Inv X pins σ (upd H s.heap.objs.size (.tup [.int (i : Nat), .str ⟨#[c]⟩])) { s with heap := h'', toks := tk + 1 } :=
      I.turnedNew (t' := tk + 1) (ch := [e, it]) (fun b ob hb q => (sb.2 b (fun z => hb (by simp [z]))).trans (hk b ob (fun z => hb (by simp [z])) (fun z => hb (by simp [z])) q)) hf (Nat.le_refl _)
        ⟨(by show 2 ≤ sizeLine; decide), [.int i tk, .str ⟨#[c]⟩ u], .cons ⟨_, rfl⟩ (.cons ⟨u, rfl⟩ .nil), ⟨_, hT2, rfl, _, rfl⟩⟩
    refine ⟨.ref s.heap.objs.size, _, I1, rfl, ⟨_, c, rfl, I.hok.fresh (Nat.le_refl _), rfl, hcx⟩, ⟨⟨.str ⟨#[c]⟩ u, ?_⟩, (let ⟨o, h1, r⟩ := hs'; ⟨o, (sb.2 it (Ne.symm hne)).trans h1, r⟩), hne⟩, fun b hb => ?_⟩
    · rw [show ((i + 1 : Nat) : Int) = (i : Int) + 1 by omega]
      exact he'
    · have e' : b = e ∨ b = it := by simpa using hb
      have hb' : b < s.heap.objs.size := by rcases e' with z | z <;> rw [z] <;> assumption
      exact (upd_ne (Nat.ne_of_lt hb')).trans (hf b hb).1
  done := by
    intro X hP hw hK hc i pins s σ H E I hf st hg
    subst hP hw hK
    obtain ⟨⟨old, he⟩, hit, hne⟩ := st
    obtain ⟨f0, f1, f2, f3, f4, f5⟩ := hf it (by simp)
    have D : Draws X.prog X.w X.A.in1 it [it] z.cps.size (fun i v => ∃ c u, z.cps[i]? = some c ∧ v = .str ⟨#[c]⟩ u) (fun i h => h.IsStrIter it ty z t i) := by
      rcases hty with e | e
      · rw [e]; exact Draws.strAscii (A := X.A.in1) (I.ok.hd hc) it z t
      · rw [e]; exact Draws.strWide (A := X.A.in1) (I.ok.hd hc) it z t
    have hg' : z.cps.size = i := hg
    exact wpAny_pyNext_enum_endD D he (hg' ▸ hit) fun h' eb => ⟨rfl, I.turned (t' := s.toks) (fun b o hb q => eb b o hb q) f0 f1 f3 f4 f5⟩
  self := fun A i s Q E st h => let ⟨⟨_, he⟩, _⟩ := st; wpAny_pyIter_enum he h
/-- enumerate of a list, a tuple or a text -/
def iEnumS (K : PySem.W.Frag) (ta : TA) : TI := fun σ H R => ta σ H fun vs H1 => (∃ a xs, vs = [.ref a] ∧ ((SqL K H1 a xs ∧ R (Ite K a) H1) ∨ (SqT K H1 a xs ∧ R (ItEt K a) H1))) ∨ ∃ z, vs = [.str z] ∧ R (ItEs z) H1
theorem pi_enumS {X : Cx} {e : Expr} {ta : TA} {p pos tpos : Pos} {elts : List Expr} {kk : Nat} (hg : Gl X "enumerate") (hm : X.mg "enumerate" = none) (ha : PA X [e] ta) (hs : starEach [e] X.env = [(false, eval e X.env)] := by rfl) :
    PI X (.Tuple elts kk tpos) (.Call (.Name "enumerate" p) [e] [] pos) (iEnumS X.K ta) := ⟨fun pins s σ H R I h => by
  refine Call_ (ld_blt I hg hm boot_enumerate (PyProof.Rows.callWith_type1 (thn (ha.run pos pins s σ H _ I h) fun us s1 ⟨vs, H1, I1, r1, hh⟩ => ?_) hs rfl))
  rcases hh with ⟨a, xs, ex, hh⟩ | ⟨z, ex, q⟩
  · subst ex
    obtain ⟨u, rfl, r⟩ := vals1 r1
    cases r
    rcases hh with ⟨hq, q⟩ | ⟨hq, q⟩
    · obtain ⟨its, rv, p', hz⟩ := I1.list hq
      refine call_enumerate_list p'.isList fun h' he hit hsz hk => wpAny_pyIter_enum he ?_
      have I2 : L2.Inv X pins σ H1 { s1 with heap := h' } := I1.kept (t' := s1.toks) hk
      refine ⟨s1.heap.objs.size + 1, [s1.heap.objs.size + 1, s1.heap.objs.size], _, _, H1, rfl, I2, turn_enum a (s1.heap.objs.size + 1) s1.heap.objs.size, ⟨⟨.none, he⟩, hit, Nat.succ_ne_self _⟩, fun b hb => ?_, q⟩
      have e' : b = s1.heap.objs.size + 1 ∨ b = s1.heap.objs.size := by simpa using hb
      have hle : s1.heap.objs.size ≤ b := e'.elim (fun z => z ▸ Nat.le_succ _) fun z => z ▸ Nat.le_refl _
      exact I1.fpOk hle (I1.hok.fresh hle)
    · obtain ⟨its, rv, pl, hz⟩ := I1.tuple hq
      have hT : s1.heap.IsTuple a its.toArray := by
        obtain ⟨o, e1, c, m, q⟩ := pl
        exact ⟨o, e1, c, m, q⟩
      have hal : a < s1.heap.objs.size := let ⟨_, e1, _⟩ := hT; Heap.lt_size e1
      refine call_enumT hT fun h' he hit hk => wpAny_pyIter_enum he ?_
      have I2 : L2.Inv X pins σ H1 { s1 with heap := h' } := I1.kept (t' := s1.toks) hk
      refine ⟨s1.heap.objs.size + 1, [s1.heap.objs.size + 1, s1.heap.objs.size], _, _, H1, rfl, I2, turn_enumT a (s1.heap.objs.size + 1) s1.heap.objs.size, ⟨⟨.none, he⟩, hit, Nat.succ_ne_self _, Nat.ne_of_gt (Nat.lt_succ_of_lt hal), Nat.ne_of_lt hal⟩, fun b hb => ?_, q⟩
      have e' : b = s1.heap.objs.size + 1 ∨ b = s1.heap.objs.size := by simpa using hb
      have hle : s1.heap.objs.size ≤ b := e'.elim (fun z => z ▸ Nat.le_succ _) fun z => z ▸ Nat.le_refl _
      exact I1.fpOk hle (I1.hok.fresh hle)
  · subst ex
    obtain ⟨u, rfl, r⟩ := vals1 r1
    obtain ⟨t, rfl⟩ := r
    refine call_enumerate_str fun h' he hit hsz hk => wpAny_pyIter_enum he ?_
    have I2 : L2.Inv X pins σ H1 { s1 with heap := h' } := I1.kept (t' := s1.toks) hk
    have hty : strIterType z = "str_ascii_iterator" ∨ strIterType z = "str_iterator" := by
      unfold strIterType
      split
      · exact .inl rfl
      · exact .inr rfl
    refine ⟨s1.heap.objs.size + 1, [s1.heap.objs.size + 1, s1.heap.objs.size], _, _, H1, rfl, I2, turn_enumS z t _ hty (s1.heap.objs.size + 1) s1.heap.objs.size, ⟨⟨.none, he⟩, hit, Nat.succ_ne_self _⟩, fun b hb => ?_, q⟩
    have e' : b = s1.heap.objs.size + 1 ∨ b = s1.heap.objs.size := by simpa using hb
    have hle : s1.heap.objs.size ≤ b := e'.elim (fun z => z ▸ Nat.le_succ _) fun z => z ▸ Nat.le_refl _
    exact I1.fpOk hle (I1.hok.fresh hle)⟩
/-- a list, a tuple or a text walked -/
def iAny (K : PySem.W.Frag) (tl : TE) : TI := fun σ H R => tl σ H fun x H1 => (∃ a, x = V.ref a ∧ (((∃ xs, SqL K H1 a xs) ∧ R (Itl K a) H1) ∨ ((∃ xs, SqT K H1 a xs) ∧ R (Itt K a) H1))) ∨ ∃ z, x = .str z ∧ R (Its z) H1
theorem pi_any {X : Cx} {tg l : Expr} {tl : TE} (hl : PE X l tl) : PI X tg l (iAny X.K tl) := ⟨fun pins s σ H R I h => by
  refine thn (hl.run pins s σ H _ I h) fun v s1 hx => ?_
  obtain ⟨x, H1, I1, r1, hx⟩ := hx
  rcases hx with ⟨a, rfl, q⟩ | ⟨z, rfl, q⟩
  · obtain rfl : v = Value.ref a := r1
    rcases q with ⟨⟨xs, hq⟩, q⟩ | ⟨⟨xs, hq⟩, q⟩
    · obtain ⟨its, rv, p, hz⟩ := I1.list hq
      refine wpAny_pyIter_list p.isList ⟨s1.heap.objs.size, [s1.heap.objs.size], _, Itl X.K a, H1, rfl, I1.kept fun b o e => Heap.get?_push_of_some _ e, turn_list a s1.heap.objs.size, ⟨_, Heap.get?_push_size _ rfl, rfl, rfl⟩, fun b hb => ?_, q⟩
      rw [List.mem_singleton.mp hb]
      exact I1.fpOk (Nat.le_refl _) (I1.hok.fresh (Nat.le_refl _))
    · obtain ⟨its, rv, p, hz⟩ := I1.tuple hq
      refine wpAny_pyIter_tuple p ⟨s1.heap.objs.size, [s1.heap.objs.size], _, Itt X.K a, H1, rfl, I1.kept fun b o e => Heap.get?_push_of_some _ e, turn_tuple a s1.heap.objs.size, ⟨_, Heap.get?_push_size _ rfl, rfl, rfl⟩, fun b hb => ?_, q⟩
      rw [List.mem_singleton.mp hb]
      exact I1.fpOk (Nat.le_refl _) (I1.hok.fresh (Nat.le_refl _))
  · obtain ⟨t, rfl⟩ := r1
    cases ha : z.cps.all (· < 128)
    · exact wpAny_pyIter_wide ha (pi_one (tk := s1.toks) I1 _ (turn_str _ z t "str_iterator" (.inr rfl)) ⟨_, Heap.get?_push_size _ rfl, rfl, rfl⟩ q)
    · exact wpAny_pyIter_ascii ha (pi_one (tk := s1.toks) I1 _ (turn_str _ z t "str_ascii_iterator" (.inl rfl)) ⟨_, Heap.get?_push_size _ rfl, rfl, rfl⟩ q)⟩
end Lf
namespace Sm
open PySem PySem.Spec PyProof.Rows L2 Lf
def chrs (z : Str) : List PyData := z.cps.toList.map fun c => .str ⟨#[c]⟩
def seqOfS : Vl → M (List PyData)
  | .d (.list ds) => fun S => .ok ds S
  | .d (.tuple ds) => fun S => .ok ds S
  | .d (.str z) => fun S => .ok (chrs z) S
  | _ => fun _ => .no
def iAnyS (f : Ex) : Ix := fun ρ S => (f ρ S).bind seqOfS
def enumS : List Vl → M (List PyData)
  | [.d (.list ds)] => fun S => .ok (enumD ds) S
  | [.d (.tuple ds)] => fun S => .ok (enumD ds) S
  | [.d (.str z)] => fun S => .ok (enumD (chrs z)) S
  | _ => fun _ => .no
section
variable {cm : CM} {D0 : Hp}
theorem yl_str {z : Str} : Yl cm (Its z) D0 (chrs z) := by
  have w := walk_str (z := z)
  unfold Yl
  rw [show (chrs z).length = z.cps.size by unfold chrs; rw [List.length_map, Array.length_toList]]
  refine w.mono (fun H _ => trivial) fun i H x H' hi _ y A S D F wd s => ?_
  obtain ⟨rfl, c, hc, rfl⟩ := y
  refine ⟨D, .str ⟨#[c]⟩, ?_, wd, .refl _, .str _⟩
  unfold chrs
  rw [List.getElem?_map, Array.getElem?_toList, hc]
  rfl
theorem walk_enumS {z : Str} : Walk (ItEs z) z.cps.size (fun _ => True) (YPair (fun i => some (.int (i : Nat))) (fun i => z.cps[i]?.map fun c => V.str ⟨#[c]⟩)) := by
  refine ⟨fun i _ hi q => hi, fun _ q => rfl, fun i H v H' _ q y => ?_⟩
  obtain ⟨T, c, h1, h2, h3, h4⟩ := y
  exact ⟨T, .int (i : Nat), .str ⟨#[c]⟩, h1, h2, h3, rfl, by dsimp only; rw [h4]; rfl⟩
theorem yl_enumS {z : Str} : Yl cm (ItEs z) D0 (enumD (chrs z)) := by
  have w := walk_enumS (z := z)
  have hl : (chrs z).length = z.cps.size := by unfold chrs; rw [List.length_map, Array.length_toList]
  unfold Yl
  rw [enumD_len, hl]
  refine w.mono (fun H _ => trivial) fun i H x H' hi _ y => ?_
  have hd : DvA cm D0 ((chrs z).map fun d => match d with | .str x => V.str x | _ => V.non) (chrs z) := by
    unfold chrs
    induction z.cps.toList with
    | nil => exact .nil
    | cons c cs ih => exact .cons (.str _) ih
  refine yh_enum hd (by rw [hl]; exact hi) ?_
  obtain ⟨T, x1, x2, h1, h2, h3, h4, h5⟩ := y
  refine ⟨T, x1, x2, h1, h2, h3, h4, ?_⟩
  rw [← h5]
  unfold chrs
  dsimp only
  rw [List.getElem?_map, List.getElem?_map, Array.getElem?_toList]
  cases z.cps[i]? <;> rfl
end
section
variable {X : Cx} {cm : CM} {W : WX} {tg e a : Expr} {f fa fb : Ex} {fs : Exs} {p pos tpos p2 : Pos} {elts : List Expr} {kk : Nat}
theorem gi_any (h : GE X cm W e f) : GI X cm W tg e (iAnyS f) :=
  pi_imp (pi_any h) fun σ H R ⟨p, ok, h⟩ => ⟨p, ok, (fin.bind h).imp (fun x S1 D1 H1 w s k v r1 => by
    unfold seqOfS at k
    split at k
    · cases r1 with
      | @lst a xs _ h1 h2 => exact .inl ⟨a, rfl, .inl ⟨⟨xs, .of (w.sub _ _ h1)⟩, k D1 H1 w (.refl _) _ (yl_list h1 h2)⟩⟩
    · cases r1 with
      | @tup a xs _ h1 h2 => exact .inl ⟨a, rfl, .inr ⟨⟨xs, .of (w.sub _ _ h1)⟩, k D1 H1 w (.refl _) _ (yl_tup h1 h2)⟩⟩
    · cases r1
      exact .inr ⟨_, rfl, k D1 H1 w (.refl _) _ yl_str⟩
    · exact absurd k id) fun _ _ _ _ _ _ z => z⟩
theorem gi_enumS (hm : X.mg "enumerate" = none) (ha : GA X cm W [e] fs) (hg : Gl X "enumerate" := by rfl) (hs : starEach [e] X.env = [(false, eval e X.env)] := by rfl) : GI X cm W (.Tuple elts kk tpos) (.Call (.Name "enumerate" p) [e] [] pos) (iArgs enumS fs) :=
  pi_imp (pi_enumS hg hm ha (hs := hs)) fun σ H R ⟨p, ok, h⟩ => ⟨p, ok, (fin.bind h).imp (fun x S1 D1 H1 w s k vs r1 => by
    unfold enumS at k
    split at k
    · obtain ⟨v, rfl, r2⟩ := vrs1 r1
      cases r2 with
      | @lst a xs _ h1 h2 => exact .inl ⟨a, xs, rfl, .inl ⟨.of (w.sub _ _ h1), k D1 H1 w (.refl _) _ (yl_enum h1 h2)⟩⟩
    · obtain ⟨v, rfl, r2⟩ := vrs1 r1
      cases r2 with
      | @tup a xs _ h1 h2 => exact .inl ⟨a, xs, rfl, .inr ⟨.of (w.sub _ _ h1), k D1 H1 w (.refl _) _ (yl_enumT h1 h2)⟩⟩
    · obtain ⟨v, rfl, r2⟩ := vrs1 r1
      cases r2
      exact .inr ⟨_, rfl, k D1 H1 w (.refl _) _ yl_enumS⟩
    · exact absurd k id) fun _ _ _ _ _ _ z => z⟩
/-! x[i] of a text, too; a text's slice -/
def ixS : PyData → PyData → Option PyData
  | .str z, .int i => if z.length ≤ big then (match atI z.cps.toList i with
    | some c => some (.str ⟨#[c]⟩)
    | none => none) else none
  | _, _ => none
theorem i_strS : Ix2 X cm ixS := ⟨_, ix_str, fun A S D F H x y a b c Q w hx hy e q => by
  unfold ixS at e
  split at e
  · rename_i z i
    split at e
    · rename_i hl
      split at e
      · rename_i c' ec
        cases e
        exact ⟨z, i, c', hx.str, hy.int, Nat.le_of_lt (big_le hl), ec, q D H _ w (.refl D) (.str _)⟩
      · cases e
    · cases e
  · cases e⟩
def ixAll : PyData → PyData → Option PyData := orF ixA ixS
theorem i_all {k : Nat} (hr : Room k X.A) : Ix2 X cm ixAll := (i_any hr).or2 i_strS
def cutFS (lo hi : Option Int) : PyData → Option PyData
  | .list ds => some (.list (cutG ds lo hi))
  | .tuple ds => some (.tuple (cutG ds lo hi))
  | .str z => if z.length ≤ big then some (.str (cutS z lo hi)) else none
  | _ => none
def eSlS (f : Ex) (lo hi : Env → M (Option Int)) : Ex := fun ρ S => (f ρ S).bind fun x S1 => (lo ρ S1).bind fun l S2 => (hi ρ S2).bind fun h => lift1 (cutFS l h) x
theorem g_sliceS {lo hi : Option Expr} {fl fh : Env → M (Option Int)} (he : GE X cm W e f) (hl : GO X cm W lo fl) (hh : GO X cm W hi fh) : GE X cm W (.Subscript e (.Slice lo hi none p2) pos) (eSlS f fl fh) :=
  pe_imp (pe_slice (SlR.or (SlR.or sl_list sl_tupA) sl_str) he hl hh) fun σ H Q ⟨p, ok, h⟩ => ⟨p, ok, (fin.bind h).imp (fun x S1 D1 H1 w s k v r => ⟨⟨p.A, S1, D1, p.Ow, p.Fr, p.ρ⟩, ok.on w s, (fin.bind k).imp (fun l S2 D2 H2 w2 s2 k2 =>
    ⟨⟨p.A, S2, D2, p.Ow, p.Fr, p.ρ⟩, ok.on w2 (s.trans s2), (fin.bind k2).imp (fun u S3 D3 H3 w3 s3 k3 => by
      obtain ⟨a, c, h1, h2, h3⟩ := lift1_inv k3
      have hx := view_dw w3 h1 (r.mono (s2.trans s3))
      unfold cutFS at h2
      split at h2
      · cases h2
        obtain ⟨q, xs, rfl, h4, h5⟩ := hx.lst w3.sub
        refine .inl (.inl ⟨q, xs, rfl, .of h4, fun m nm => ?_⟩)
        obtain ⟨w', s'⟩ := w3.new nm (.lst (cutV xs l u))
        exact h3 _ _ w' s' _ (.lst upd_same ((cutG_dv h5).mono s'))
      · cases h2
        obtain ⟨q, xs, rfl, h4, h5⟩ := hx.tup
        refine .inl (.inr ⟨q, xs, rfl, .of (w3.sub _ _ h4), fun hw => ?_, fun _ m nm => ?_⟩)
        · have e1 : cutG ‹List PyData› l u = ‹List PyData› := by
            unfold cutG
            rw [← h5.length, hw.1, hw.2, List.drop_zero, Nat.sub_zero, h5.length, List.take_length]
          rw [e1] at h3
          exact h3 _ _ w3 (.refl _) _ (.tup h4 h5)
        · obtain ⟨w', s'⟩ := w3.new nm (.tup (cutV xs l u))
          exact h3 _ _ w' s' _ (.tup upd_same ((cutG_dv h5).mono s'))
      · split at h2
        · rename_i hz
          cases h2
          exact .inr ⟨_, hx.str, Nat.le_of_lt (big_le hz), h3 _ _ w3 (.refl _) _ (.str _)⟩
        · cases h2
      · cases h2) fun _ _ _ _ _ _ z => z⟩) fun _ _ _ _ _ _ z => z⟩) fun _ _ _ _ _ _ z => z⟩
/-! ord -/
def fOrd : List PyData → Option PyData
  | [.str x] => if x.length = 1 then some (.int (x.cps.getD 0 0 : Nat)) else none
  | _ => none
theorem c_ord : Ca X cm (.builtin "ord") fOrd := ⟨_, call_ord, fun A S D F H xs as c Q w hx e q => by
  unfold fOrd at e
  split at e
  · split at e
    · rename_i h1
      cases e
      obtain ⟨v, rfl, hv⟩ := dwA1 hx
      exact ⟨_, by rw [hv.str], h1, q D H _ w (.refl D) (.int _)⟩
    · cases e
  · cases e⟩
end
end Sm

set_option maxHeartbeats 4000000
namespace Lf
open PySem PySem.Spec PyProof.Rows L2
/-! ## calls by keyword -/
def permL {α : Type} (pm : List Nat) (l : List α) : List α := pm.filterMap fun i => l[i]?
def permG {α : Type} (d : α) (n np nk : Nat) (pm : List Nat) (us ws : List α) : List α := if us.length = np ∧ ws.length = nk then permL pm (us ++ ws) else List.replicate (n + 1) d
theorem Vals.get? : ∀ {vs : List V} {us : List Value} (i : Nat), Vals vs us → (vs[i]? = none ∧ us[i]? = none) ∨ ∃ v u, vs[i]? = some v ∧ us[i]? = some u ∧ RelV v u
  | _, _, _, .nil => .inl ⟨by simp, by simp⟩
  | _, _, 0, .cons h t => .inr ⟨_, _, by simp, by simp, h⟩
  | _, _, i + 1, .cons h t => by simpa using Vals.get? i t
theorem vals_perm {vs : List V} {us : List Value} (h : Vals vs us) : ∀ pm : List Nat, Vals (permL pm vs) (permL pm us)
  | [] => .nil
  | i :: pm => by
    have ih := vals_perm h pm
    unfold permL at ih ⊢
    rcases Vals.get? i h with ⟨e1, e2⟩ | ⟨v, u, e1, e2, r⟩
    · rw [List.filterMap_cons_none e1, List.filterMap_cons_none e2]; exact ih
    · rw [List.filterMap_cons_some e1, List.filterMap_cons_some e2]; exact .cons r ih
theorem vals_rep : ∀ n : Nat, Vals (List.replicate n V.non) (List.replicate n Value.none)
  | 0 => .nil
  | n + 1 => .cons rfl (vals_rep n)
theorem vals_permG {n np nk : Nat} {pm : List Nat} {vs zs : List V} {us ws : List Value} (h : Vals vs us) (k : Vals zs ws) : Vals (permG .non n np nk pm vs zs) (permG .none n np nk pm us ws) := by
  unfold permG
  rw [h.length, k.length]
  split
  · exact vals_perm (h.append k) pm
  · exact vals_rep _
theorem kbinds_P {K : PySem.W.Frag} {x q : Str} {st : Stmt} {f : Addr} {fd : FuncData} {ps ks : List Str} {np : Nat} {pm : List Nat} (F : Fun K x q st f fd)
    (h : ∀ (kV doc pm' : Value) (an : Option Addr) (cdv ct : Value) (us ws : List Value), us.length = np → ws.length = ks.length →
      bindArgs (PySem.W.fnOf x q (defArgs st) (defBody st) (defScope st) .none kV doc pm' an cdv ct) ⟨us, ks.zip ws⟩ = pure (ps.zip (permL pm (us ++ ws)))) :
    KBinds K fd ps ks (permG .none ps.length np ks.length pm) (permG .non ps.length np ks.length pm) := by
  obtain ⟨oc, od, kV, doc, pm', an, cdv, ct, osl, rfl, lk, hcd⟩ := F.ex
  refine ⟨fun s us ws X hl => ?_, fun r1 r2 => vals_permG r1 r2⟩
  unfold permG at hl ⊢
  by_cases c : us.length = np ∧ ws.length = ks.length
  · rw [if_pos c]
    exact .of_eq (h kV doc pm' an cdv ct us ws c.1 c.2)
  · rw [if_neg c, List.length_replicate] at hl
    omega
section
variable {X : Cx} {CX : CXT} {k : Nat} {f : Addr} {fd : FuncData} {ps ks : List Str} {sp : Sp} {E : L2.St → XK} {x : Str} {p pos : Pos} {e : Expr} {es : List Expr} {t : TA} {kws : List Keyword} {tk : TA} {g : List Value → List Value → List Value} {gV : List V → List V → List V}
def tCallKS (sp : Sp) (gV : List V → List V → List V) (E : L2.St → XK) (t tk : TA) : TE := fun σ H Q => t σ H fun vs H1 => tk σ H1 fun zs H2 => sp (gV vs zs) H2 Q (E σ)
theorem run_fnkS {pins : List (Addr × Obj)} {σ : L2.St} {H : Hp} {s : Shared} {Q : VK} {us ws : List Value} {vs zs : List V} (F : FnOk X.prog X.w X.K X.mg X.base CX k f fd ps sp) (hr : Room k X.A) (hb : KBinds X.K fd ps ks g gV) (hx : PassesAt CX X σ (E σ))
    (I : L2.Inv X pins σ H s) (r : Vals vs us) (rz : Vals zs ws) (h : sp (gV vs zs) H Q (E σ)) : wpAny (model X.prog X.w) X.A (call (.ref f) us (ks.zip ws)) (EP X pins σ Q) X.xe s := by
  have r2 := hb.rel r rz
  have hl : (g us ws).length = ps.length := by rw [← r2.length]; exact F.len _ _ _ _ h
  refine wpAny_call (codeAny_mono (F.run X.A X.stack s H ⟨us, ks.zip ws⟩ (g us ws) (gV vs zs) Q (E σ) hr I.env0 (hb.to s us ws I.kIn hl) r2 h) fun r s' hq => ?_)
  cases r with
  | error e => exact hx pins H s e s' I hq
  | ok fl =>
    cases fl with
    | ret u => exact I.after hq
    | next => exact False.elim hq
    | brk => exact False.elim hq
    | cont => exact False.elim hq
theorem pe_callKS (F : FnOk X.prog X.w X.K X.mg X.base CX k f fd ps sp) (hr : Room k X.A) (hg : Gl X x) (hm : X.mg x = some (.ref f)) (hk : PySem.W.keepIn X.K (.ref f) = true) (hb : KBinds X.K fd ps ks g gV) (hx : ∀ σ, PassesAt CX X σ (E σ))
    (ha : PA X (e :: es) t) (hkw : PK X kws tk) (hall : (backToKw pos (keywordEach kws X.env)).all (·.1.isSome) = true := by rfl) (hks : (backToKw pos (keywordEach kws X.env)).filterMap (·.1) = ks := by rfl)
    (hdb : (x == ("__debug__" : Str)) = false := by decide) (he : starEach (e :: es) X.env = (false, eval e X.env) :: starEach es X.env := by rfl)
    (hpl : ((backTo pos (starEach (e :: es) X.env)).any (·.1) || (backToKw pos (keywordEach kws X.env)).any (·.1.isNone)) = false := by rfl) :
    PE X (.Call (.Name x p) (e :: es) kws pos) (tCallKS sp gV E t tk) := by
  refine ⟨fun pins s σ H Q I h => ?_⟩
  refine wpAny_Call_Name_kw (ld_glob I hg hm ?_ hdb)
  refine PySem.W.callWith_KW (h₀ := X.base) I.ok.mod.kin hk hall (thn (ha.run pos pins s σ H _ I h) fun us s1 ⟨vs, H1, I1, r, q⟩ => ?_) hpl he
  refine thn (hkw.run pos pins s1 σ H1 _ I1 q) fun ws s2 ⟨zs, H2, I2, rz, q2⟩ => ⟨I2.kIn, ?_⟩
  rw [hks]
  exact run_fnkS F hr hb (hx σ) I2 r rz q2
theorem pe_kw0S (F : FnOk X.prog X.w X.K X.mg X.base CX k f fd ps sp) (hr : Room k X.A) (hg : Gl X x) (hm : X.mg x = some (.ref f)) (hk : PySem.W.keepIn X.K (.ref f) = true) (hb : KBinds X.K fd ps ks g gV) (hx : ∀ σ, PassesAt CX X σ (E σ))
    (hkw : PK X kws tk) (hall : (backToKw pos (keywordEach kws X.env)).all (·.1.isSome) = true := by rfl) (hks : (backToKw pos (keywordEach kws X.env)).filterMap (·.1) = ks := by rfl)
    (hdb : (x == ("__debug__" : Str)) = false := by decide)
    (hpl : ((backTo pos (starEach [] X.env)).any (·.1) || (backToKw pos (keywordEach kws X.env)).any (·.1.isNone)) = false := by rfl) :
    PE X (.Call (.Name x p) [] kws pos) (tCallKS sp gV E tNil tk) := by
  refine ⟨fun pins s σ H Q I h => ?_⟩
  refine wpAny_Call_Name_kw (ld_glob I hg hm ?_ hdb)
  refine PySem.W.callWith_KW0 (h₀ := X.base) I.ok.mod.kin hk hall ?_ hpl
  refine thn (hkw.run pos pins s σ H _ I h) fun ws s2 ⟨zs, H2, I2, rz, q2⟩ => ⟨I2.kIn, ?_⟩
  rw [hks]
  exact run_fnkS (us := []) (vs := []) F hr hb (hx σ) I2 .nil rz q2
end
end Lf
namespace Sm
open PySem PySem.Spec PyProof.Rows L2 Lf
/-- a def of the text that is called by keywords, too -/
def GFK (P : Program) (w : World) (K : PySem.W.Frag) (mg : Str → Option Value) (base : Heap) (cm : CM) (k : Nat) (x : Str) (ps ks : List Str) (np : Nat) (pm : List Nat) (F : Fn) : Prop :=
  ∃ (f : Addr) (fd : FuncData), FnOk P w K mg base (L2.CX P w) k f fd ps (spF cm ps.length F) ∧ mg x = some (.ref f) ∧ PySem.W.keepIn K (.ref f) = true ∧ KBinds K fd ps ks (permG .none ps.length np ks.length pm) (permG .non ps.length np ks.length pm)
def callP (n np nk : Nat) (pm : List Nat) (F : Fn) (xs ys : List Vl) : M Vl := fun S => if xs.length = np ∧ ys.length = nk then callF n F (permL pm (xs ++ ys)) S else .no
def eKw (n np nk : Nat) (pm : List Nat) (F : Fn) (a b : Exs) : Ex := fun ρ S => (a ρ S).bind fun xs S1 => (b ρ S1).bind fun ys => callP n np nk pm F xs ys
theorem VRs.perm {cm : CM} {A : List Addr} {D : Hp} {Ow : List (Addr × HO)} {xs : List Vl} {vs : List V} (h : VRs cm A D Ow xs vs) : ∀ pm : List Nat, VRs cm A D Ow (permL pm xs) (permL pm vs)
  | [] => .nil
  | i :: pm => by
    have ih := VRs.perm h pm
    unfold permL at ih ⊢
    cases e : xs[i]? with
    | none =>
      have e2 : vs[i]? = none := by
        rw [List.getElem?_eq_none_iff] at e ⊢
        rw [← h.length]; exact e
      rw [List.filterMap_cons_none e, List.filterMap_cons_none e2]; exact ih
    | some x =>
      obtain ⟨v, e2, r⟩ := h.get e
      rw [List.filterMap_cons_some e, List.filterMap_cons_some e2]; exact .cons r ih
theorem VRs.app {cm : CM} {A : List Addr} {D : Hp} {Ow : List (Addr × HO)} : ∀ {xs ys : List Vl} {vs ws : List V}, VRs cm A D Ow xs vs → VRs cm A D Ow ys ws → VRs cm A D Ow (xs ++ ys) (vs ++ ws)
  | _, _, _, _, .nil, k => k
  | _, _, _, _, .cons h t, k => .cons h (VRs.app t k)
section
variable {X : Cx} {cm : CM} {W : WX} {k n np : Nat} {x : Str} {ps ks : List Str} {pm : List Nat} {F : Fn} {e : Expr} {es : List Expr} {fs ft : Exs} {p pos kpos : Pos} {kws : List Keyword} {nm : Option Str} {f : Ex}
abbrev GK (X : Cx) (cm : CM) (W : WX) (e : List Keyword) (f : Exs) : Prop := PK X e (tA cm W f)
theorem pk_imp {e : List Keyword} {t t' : TA} (h : PK X e t) (k : ∀ σ H Q, t' σ H Q → t σ H Q) : PK X e t' := ⟨fun pos pins s σ H Q I q => h.run pos pins s σ H Q I (k _ _ _ q)⟩
theorem gk_nil : GK X cm W [] asNil := pk_imp pk_nil fun σ H Q ⟨p, ok, h⟩ => h p.D H ok.wd (.refl _) [] .nil
theorem gk_cons (ha : GE X cm W e f) (hr : GK X cm W kws fs) : GK X cm W (⟨nm, e, kpos⟩ :: kws) (asCons f fs) :=
  pk_imp (pk_cons ha hr) fun σ H Q ⟨p, ok, h⟩ => ⟨p, ok, (fin.bind h).imp (fun x S1 D1 H1 w s k v r1 =>
    ⟨⟨p.A, S1, D1, p.Ow, p.Fr, p.ρ⟩, ok.on w s, (fin.bind k).imp (fun xs S2 D2 H2 w2 s2 k2 vs r2 => k2 D2 H2 w2 (.refl _) (v :: vs) (.cons (r1.mono s2) r2)) fun _ _ _ _ _ _ z => z⟩) fun _ _ _ _ _ _ z => z⟩
theorem callP_fin {p : Pk} {σ : L2.St} {H : Hp} {Q : VK} {xs ys : List Vl} {S1 : Sto} {D1 : Hp} {vs ws : List V} (ok : Pk.Ok cm ⟨p.A, S1, D1, p.Ow, p.Fr, p.ρ⟩ σ H) (r : VRs cm p.A D1 p.Ow xs vs) (r2 : VRs cm p.A D1 p.Ow ys ws)
    (h : fin cm p.A (p.Ow ++ p.Fr) D1 (callP ps.length np ks.length pm F xs ys S1) (fun x _ D' H' => ∀ v, VR cm p.A D' p.Ow x v → Q v H') (erW cm W σ)) : spF cm ps.length F (permG .non ps.length np ks.length pm vs ws) H Q (WE W σ) := by
  unfold callP at h
  unfold permG
  rw [← r.length, ← r2.length]
  split at h
  · rename_i c
    rw [if_pos c]
    exact call_fin ok ((r.app r2).perm pm) h
  · exact absurd h id
theorem g_callK (G : GFK X.prog X.w X.K X.mg X.base cm k x ps ks np pm F) (tk : Takes X W) (hr : Room k X.A) (ha : GA X cm W (e :: es) fs) (hkw : GK X cm W kws ft) (hall : (backToKw pos (keywordEach kws X.env)).all (·.1.isSome) = true := by rfl) (hks : (backToKw pos (keywordEach kws X.env)).filterMap (·.1) = ks := by rfl) (hg : Gl X x := by rfl) (hdb : (x == ("__debug__" : Str)) = false := by decide)
    (he : starEach (e :: es) X.env = (false, eval e X.env) :: starEach es X.env := by rfl) (hpl : ((backTo pos (starEach (e :: es) X.env)).any (·.1) || (backToKw pos (keywordEach kws X.env)).any (·.1.isNone)) = false := by rfl) {n nk : Nat} (hn : ps.length = n := by rfl) (hnk : ks.length = nk := by rfl) :
    GE X cm W (.Call (.Name x p) (e :: es) kws pos) (eKw n np nk pm F fs ft) := by
  subst hn hnk
  obtain ⟨f, fd, ok, m, kp, b⟩ := G
  refine ⟨fun pins s σ H Q I ⟨p, okp, h⟩ => ?_⟩
  refine (pe_callKS ok hr hg m kp b (fun σ => passAt tk σ) ha hkw hall hks hdb he hpl).run pins s σ H Q I ?_
  exact ⟨p, okp, (fin.bind h).imp (fun xs S1 D1 H1 w1 s1 k vs r => ⟨⟨p.A, S1, D1, p.Ow, p.Fr, p.ρ⟩, okp.on w1 s1, (fin.bind k).imp (fun ys S2 D2 H2 w2 s2 k2 ws r2 => callP_fin (okp.on w2 (s1.trans s2)) (r.mono s2) r2 k2) fun _ _ _ _ _ _ z => z⟩) fun _ _ _ _ _ _ z => z⟩
theorem g_callK0 (G : GFK X.prog X.w X.K X.mg X.base cm k x ps ks 0 pm F) (tk : Takes X W) (hr : Room k X.A) (hkw : GK X cm W kws ft) (hall : (backToKw pos (keywordEach kws X.env)).all (·.1.isSome) = true := by rfl) (hks : (backToKw pos (keywordEach kws X.env)).filterMap (·.1) = ks := by rfl) (hg : Gl X x := by rfl) (hdb : (x == ("__debug__" : Str)) = false := by decide)
    (hpl : ((backTo pos (starEach [] X.env)).any (·.1) || (backToKw pos (keywordEach kws X.env)).any (·.1.isNone)) = false := by rfl) {n nk : Nat} (hn : ps.length = n := by rfl) (hnk : ks.length = nk := by rfl) :
    GE X cm W (.Call (.Name x p) [] kws pos) (eKw n 0 nk pm F asNil ft) := by
  subst hn hnk
  obtain ⟨f, fd, ok, m, kp, b⟩ := G
  refine ⟨fun pins s σ H Q I ⟨p, okp, h⟩ => ?_⟩
  refine (pe_kw0S ok hr hg m kp b (fun σ => passAt tk σ) hkw hall hks hdb hpl).run pins s σ H Q I ?_
  exact ⟨p, okp, (fin.bind (m := ft p.ρ p.S) (g := fun ys => callP ps.length 0 ks.length pm F [] ys) h).imp (fun ys S2 D2 H2 w2 s2 k2 ws r2 => callP_fin (okp.on w2 s2) .nil r2 k2) fun _ _ _ _ _ _ z => z⟩
end
/-! ## check_islands: all names are there -/
def seqStrs : PyData → Option (List Str)
  | .list ds => asStrs ds
  | .tuple ds => asStrs ds
  | _ => none
def f_check_islands : Fn := fun xs S => match xs with
  | [.d a, .d b] => match seqStrs a, seqStrs b with
    | some ss, some ns => if ss.length ≤ 900 ∧ ∀ n ∈ ns, n ∈ ss then .ok (.d .none) S else .no
    | _, _ => .no
  | _ => .no
section
variable {P : Program} {w : World} {K : PySem.W.Frag} {cm : CM}
theorem seqStrs_at {D H : Hp} {v : V} {a : PyData} {ss : List Str} (s : Same D H) (h : Dv cm D v a) (e : seqStrs a = some ss) : ∃ l, v = .ref l ∧ (H l = some (.lst (ss.map V.str)) ∨ H l = some (.tup (ss.map V.str))) := by
  cases a with
  | list ds =>
    cases h with
    | lst h1 h2 =>
      rw [asStrs_eq e] at h2
      rw [dvA_strs h2] at h1
      exact ⟨_, rfl, .inl (s _ _ h1)⟩
  | tuple ds =>
    cases h with
    | tup h1 h2 =>
      rw [asStrs_eq e] at h2
      rw [dvA_strs h2] at h1
      exact ⟨_, rfl, .inr (s _ _ h1)⟩
  | _ => cases e
theorem chk_sem {vs : List V} {H : Hp} {Q : VK} {E : XK} (h : spF cm 2 f_check_islands vs H Q E) : ∃ (v l : Addr) (ss ns : List Str), vs = [V.ref v, .ref l] ∧ (SqL K H v (ss.map V.str) ∨ SqT K H v (ss.map V.str)) ∧ (H l = some (.lst (ns.map V.str)) ∨ H l = some (.tup (ns.map V.str))) ∧ ss.length ≤ 900 ∧ (∀ n ∈ ns, n ∈ ss) ∧ ∀ H', Same H H' → Q .non H' := by
  obtain ⟨A, S, D, Fr, xs, hl, wd, hv, h⟩ := h
  unfold f_check_islands at h
  split at h
  · rename_i a b
    split at h
    · rename_i ss ns e1 e2
      split at h
      · rename_i c
        obtain ⟨v, u, rfl, r1, r2⟩ := vrs2 hv
        obtain ⟨l1, rfl, k1⟩ := seqStrs_at wd.sub r1 e1
        obtain ⟨l2, rfl, k2⟩ := seqStrs_at wd.sub r2 e2
        exact ⟨l1, l2, ss, ns, rfl, k1.imp .of .of, k2, c.1, c.2, fun H' s => h D H' (wd.grow s) (.refl _) _ .non⟩
      · exact absurd h id
    · exact absurd h id
  · exact absurd h id
end
end Sm

set_option maxHeartbeats 4000000
namespace Sm
open PySem PySem.Spec PyProof.Rows L2 Lf
theorem strs_at {ns : List Str} {i : Nat} {x : V} (hx : (ns.map V.str)[i]? = some x) : ∃ n, ns[i]? = some n ∧ x = .str n := by
  rw [List.getElem?_map] at hx
  cases e : ns[i]? with
  | none => rw [e] at hx; cases hx
  | some n => rw [e] at hx; exact ⟨n, rfl, (Option.some.inj hx).symm⟩
end Sm
namespace Sm
open PySem PySem.Spec PyProof.Rows L2 Lf
/-! ## [..] * k -/
def repL : PyData → PyData → Option PyData
  | .list ds, .int k => if 0 ≤ k ∧ k ≤ 1000 ∧ ds.length ≤ 1000 then some (.list (List.replicate k.toNat ds).flatten) else none
  | _, _ => none
theorem DvA.rep {cm : CM} {D : Hp} {xs : List V} {ds : List PyData} (h : DvA cm D xs ds) : ∀ n : Nat, DvA cm D (List.replicate n xs).flatten (List.replicate n ds).flatten
  | 0 => .nil
  | n + 1 => by
    rw [List.replicate_succ, List.replicate_succ, List.flatten_cons, List.flatten_cons]
    exact h.append (DvA.rep h n)
theorem o_rep {X : Cx} {cm : CM} : Op2 X cm (binaryOp .Mult) repL := ⟨_, op_rep, fun A S D F H x y a b c Q w hx hy e q => by
  unfold repL at e
  split at e
  · rename_i ds k
    split at e
    · rename_i hk
      cases e
      obtain ⟨l, xs, rfl, h1, h2⟩ := hx.lst w.sub
      refine ⟨l, k, xs, rfl, hy.int, h1, by omega, by omega, ?_, fun p np => ?_⟩
      · rw [h2.length]
        have : ds.length * k.toNat ≤ 1000 * 1000 := Nat.mul_le_mul hk.2.2 (by omega)
        exact Nat.le_trans this (by decide)
      · obtain ⟨w', s⟩ := w.new np (.lst (List.replicate k.toNat xs).flatten)
        exact q _ _ _ w' s (.lst upd_same ((h2.rep k.toNat).mono s))
    · cases e
  · cases e⟩
end Sm

set_option maxHeartbeats 16000000
namespace Sm
open PySem PySem.Spec PyProof.Rows L2 Lf

def topS (i : Nat) : Stmt := PySem.Challenge.pw_lastfords_k72_rules_that_fords_keep.main.body.getD i (.Pass ⟨0, 0, 0, 0⟩)
structure Bn (mg : Str → Option Value) : Prop where
  all : mg "all" = none
  bool : mg "bool" = none
  enumerate : mg "enumerate" = none
  int : mg "int" = none
  isinstance : mg "isinstance" = none
  len : mg "len" = none
  list : mg "list" = none
  max : mg "max" = none
  min : mg "min" = none
  ord : mg "ord" = none
  range : mg "range" = none
  set : mg "set" = none
  sorted : mg "sorted" = none
  str : mg "str" = none
  tuple : mg "tuple" = none
  zip : mg "zip" = none
section
variable {P : Program} {w : World} {K : PySem.W.Frag} {mg : Str → Option Value} {base : Heap} {f : Addr} {fd : FuncData} {cm : CM}
/-! ## frozen -/
abbrev n_frozen : List Str := ["value", "part"]
theorem sc_frozen : FnScope n_frozen ["value"] (defScope (topS 1)) := ⟨rfl, rfl, rfl, by decide +kernel, rfl, by decide +kernel, by decide +kernel⟩
def b_frozen (f_ : Fn) : Sx := (sSeq (sIf (eTest (e1 (lift1 (isi2F .list .tuple)) (eV 0))) (sRet (eArgs (liftA fTuple) (asCons (eComp (.n 1) (iAnyS (eV 0)) yesT (eArgs (callF 1 f_) (asCons (eV 1) asNil)) [1]) asNil))) sNil)
    (sRet (eV 0)))
def f_frozen : Nat → Fn
  | 0 => fNo
  | k + 1 => runF 2 (b_frozen (f_frozen k))
theorem ok_frozen (B : Bn mg)  {k : Nat} {f_ : Fn} (h_frozen : GF P w K mg base cm (k + 1) "frozen" ["value"] f_) (F : L2.Fun K "frozen" "frozen" (topS 1) f fd) : FnOk P w K mg base (L2.CX P w) (k + 1 + 1) f fd ["value"] (spF cm 1 (runF 2 (b_frozen f_))) :=
  gfn (k := k + 1) (N := n_frozen) (ps := ["value"]) (b := b_frozen f_) F sc_frozen fun cdv A outer s H E hr => (gss_cons (gs_if (gt_val (g_isi2 .list .tuple B.isinstance B.list B.tuple (g_var 0) (by decide +kernel) (by decide +kernel))) (gss_one (gs_ret (g_callTy c_tuple B.tuple (ga_cons (g_comp (own := [("part", 1)]) rfl sc_frozen.nd (gi_any (g_var 0)) (blkOk_by (own := [("part", 1)]) (N := n_frozen) (sc := (defScope (topS 1))) (by decide +kernel)) (fun _ _ _ _ _ => (gg_name (i := 1) sc_frozen.nd rfl (by first | exact .inl rfl | exact .inr rfl))) (fun _ _ _ _ _ => gts_nil) (fun _ _ _ _ _ => (g_call h_frozen takes0 (hr.mono (by omega)) (ga_cons (g_var 1) ga_nil)))) ga_nil)))) gss_nil)
    (gss_one (gs_ret (g_var 0))))
theorem gf_frozen (B : Bn mg)  (F : L2.Fun K "frozen" "frozen" (topS 1) f fd) (hm : mg "frozen" = some (.ref f)) (hb : Binds K fd ["value"] []) : ∀ k : Nat, GF P w K mg base cm (k + 1) "frozen" ["value"] (f_frozen k)
  | 0 => ⟨f, fd, fn_none, hm, F.kp, hb⟩
  | k + 1 => ⟨f, fd, ok_frozen B  (gf_frozen B  F hm hb k) F, hm, F.kp, hb⟩
/-! ## ascending -/
abbrev n_ascending : List Str := ["values"]
theorem sc_ascending : FnScope n_ascending ["values"] (defScope (topS 2)) := ⟨rfl, rfl, rfl, by decide +kernel, rfl, by decide +kernel, by decide +kernel⟩
def b_ascending : Sx := (sRet (eArgs (liftA fTuple) (asCons (e1 (lift1 ssA) (eV 0)) asNil)))
def f_ascending : Fn := runF 1 b_ascending
theorem ok_ascending (B : Bn mg)  (F : L2.Fun K "ascending" "ascending" (topS 2) f fd) : FnOk P w K mg base (L2.CX P w) 1 f fd ["values"] (spF cm 1 f_ascending) :=
  gfn (k := 0) (N := n_ascending) (ps := ["values"]) (b := b_ascending) F sc_ascending fun cdv A outer s H E hr => (gss_one (gs_ret (g_callTy c_tuple B.tuple (ga_cons (g_ssA hr rfl B.sorted B.set (g_var 0)) ga_nil))))
/-! ## marks_alone -/
abbrev n_marks_alone : List Str := ["islands", "island"]
theorem sc_marks_alone : FnScope n_marks_alone ["islands"] (defScope (topS 6)) := ⟨rfl, rfl, rfl, by decide +kernel, rfl, by decide +kernel, by decide +kernel⟩
def b_marks_alone : Sx := (sRet (eDc (.n 1) (iAnyS (eV 0)) yesT (eV 1) (eV 1) [1]))
def f_marks_alone : Fn := runF 2 b_marks_alone
theorem ok_marks_alone (B : Bn mg)  (F : L2.Fun K "marks_alone" "marks_alone" (topS 6) f fd) : FnOk P w K mg base (L2.CX P w) 1 f fd ["islands"] (spF cm 1 f_marks_alone) :=
  gfn (k := 0) (N := n_marks_alone) (ps := ["islands"]) (b := b_marks_alone) F sc_marks_alone fun cdv A outer s H E hr => (gss_one (gs_ret (g_dc (own := [("island", 1)]) rfl sc_marks_alone.nd (gi_any (g_var 0)) (blkOk_by (own := [("island", 1)]) (N := n_marks_alone) (sc := (defScope (topS 6))) (by decide +kernel)) (fun _ _ _ _ _ => (gg_name (i := 1) sc_marks_alone.nd rfl (by first | exact .inl rfl | exact .inr rfl))) (fun _ _ _ _ _ => gts_nil) (fun _ _ _ _ _ => (g_var 1)) (fun _ _ _ _ _ => (g_var 1)))))
/-! ## joins -/
abbrev n_joins : List Str := ["marks", "pair"]
theorem sc_joins : FnScope n_joins ["marks", "pair"] (defScope (topS 7)) := ⟨rfl, rfl, rfl, by decide +kernel, rfl, by decide +kernel, by decide +kernel⟩
def b_joins : Sx := (sRet (e2 (lift2 eqF) (e2 (lift2 ixAll) (eV 0) (e2 (lift2 ixAll) (eV 1) (eK (.int 0)))) (e2 (lift2 ixAll) (eV 0) (e2 (lift2 ixAll) (eV 1) (eK (.int 1))))))
def f_joins : Fn := runF 2 b_joins
theorem ok_joins (B : Bn mg)  (F : L2.Fun K "joins" "joins" (topS 7) f fd) : FnOk P w K mg base (L2.CX P w) 1 f fd ["marks", "pair"] (spF cm 2 f_joins) :=
  gfn (k := 0) (N := n_joins) (ps := ["marks", "pair"]) (b := b_joins) F sc_joins fun cdv A outer s H E hr => (gss_one (gs_ret (g_cmp (o_eq hr) (g_ix (i_all hr) (g_var 0) (g_ix (i_all hr) (g_var 1) g_int)) (g_ix (i_all hr) (g_var 0) (g_ix (i_all hr) (g_var 1) g_int)) (nomark _))))
/-! ## merged -/
abbrev n_merged : List Str := ["marks", "pair", "low", "high", "island"]
theorem sc_merged : FnScope n_merged ["marks", "pair"] (defScope (topS 8)) := ⟨rfl, rfl, rfl, by decide +kernel, rfl, by decide +kernel, by decide +kernel⟩
def b_merged : Sx := (sSeq (sAsg (.t [(.n 2), (.n 3)]) (eArgs (liftA fSortedB) (asCons (eArgs mkLst (asCons (e2 (lift2 ixAll) (eV 0) (e2 (lift2 ixAll) (eV 1) (eK (.int 0)))) (asCons (e2 (lift2 ixAll) (eV 0) (e2 (lift2 ixAll) (eV 1) (eK (.int 1)))) asNil))) asNil)))
    (sRet (eDcK 0 (.n 4) yesT (eV 4) (eIf (eTest (e2 (lift2 eqF) (e2 (lift2 ixAll) (eV 0) (eV 4)) (eV 3))) (eV 2) (e2 (lift2 ixAll) (eV 0) (eV 4))) [4])))
def f_merged : Fn := runF 5 b_merged
theorem ok_merged (B : Bn mg)  (F : L2.Fun K "merged" "merged" (topS 8) f fd) : FnOk P w K mg base (L2.CX P w) 1 f fd ["marks", "pair"] (spF cm 2 f_merged) :=
  gfn (k := 0) (N := n_merged) (ps := ["marks", "pair"]) (b := b_merged) F sc_merged fun cdv A outer s H E hr => (gss_cons (gs_asg (g_callB (c_sortedB hr) B.sorted (ga_cons (g_lst (ga_cons (g_ix (i_all hr) (g_var 0) (g_ix (i_all hr) (g_var 1) g_int)) (ga_cons (g_ix (i_all hr) (g_var 0) (g_ix (i_all hr) (g_var 1) g_int)) ga_nil))) ga_nil)) (gg_tup rfl (ggs_cons (gg_name (i := 2) sc_merged.nd rfl (by first | exact .inl rfl | exact .inr rfl)) (ggs_cons (gg_name (i := 3) sc_merged.nd rfl (by first | exact .inl rfl | exact .inr rfl)) ggs_nil))))
    (gss_one (gs_ret (g_dcK (i := 0) (own := [("island", 4)]) rfl sc_merged.nd rfl (by first | exact Or.inl rfl | exact Or.inr (Or.inl rfl) | exact Or.inr (Or.inr rfl)) (blkOk_by (own := [("island", 4)]) (N := n_merged) (sc := (defScope (topS 8))) (by decide +kernel)) (fun _ _ _ _ _ => (gg_name (i := 4) sc_merged.nd rfl (by first | exact .inl rfl | exact .inr rfl))) (fun _ _ _ _ _ => gts_nil) (fun _ _ _ _ _ => (g_var 4)) (fun _ _ _ _ _ => (g_if (gt_cmp (o_eq hr) (g_ix (i_all hr) (g_var 0) (g_var 4)) (g_var 3) (nomark _)) (g_var 2) (g_ix (i_all hr) (g_var 0) (g_var 4))))))))
/-! ## from_highest -/
abbrev n_from_highest : List Str := ["fords", "height", "pair"]
theorem sc_from_highest : FnScope n_from_highest ["fords"] (defScope (topS 10)) := ⟨rfl, rfl, rfl, by decide +kernel, rfl, by decide +kernel, by decide +kernel⟩
def b_from_highest : Sx := (sRet (eComp (.t [(.n 1), (.n 2)]) (iAnyS (e1 (lift1 (fSortD true)) (eComp (.t [(.n 2), (.n 1)]) (iAnyS (eV 0)) yesT (eArgs mkTup (asCons (eV 1) (asCons (eV 2) asNil))) [2, 1]))) yesT (eArgs mkTup (asCons (eV 2) (asCons (eV 1) asNil))) [1, 2]))
def f_from_highest : Fn := runF 3 b_from_highest
theorem ok_from_highest (B : Bn mg)  (F : L2.Fun K "from_highest" "from_highest" (topS 10) f fd) : FnOk P w K mg base (L2.CX P w) 1 f fd ["fords"] (spF cm 1 f_from_highest) :=
  gfn (k := 0) (N := n_from_highest) (ps := ["fords"]) (b := b_from_highest) F sc_from_highest fun cdv A outer s H E hr => (gss_one (gs_ret (g_comp (own := [("height", 1), ("pair", 2)]) rfl sc_from_highest.nd (gi_any (g_sortedR hr rfl B.sorted (g_comp (own := [("pair", 2), ("height", 1)]) rfl sc_from_highest.nd (gi_any (g_var 0)) (blkOk_by (own := [("pair", 2), ("height", 1)]) (N := n_from_highest) (sc := (defScope (topS 10))) (by decide +kernel)) (fun _ _ _ _ _ => (gg_tup rfl (ggs_cons (gg_name (i := 2) sc_from_highest.nd rfl (by first | exact .inl rfl | exact .inr rfl)) (ggs_cons (gg_name (i := 1) sc_from_highest.nd rfl (by first | exact .inl rfl | exact .inr rfl)) ggs_nil)))) (fun _ _ _ _ _ => gts_nil) (fun _ _ _ _ _ => (g_tup (ga_cons (g_var 1) (ga_cons (g_var 2) ga_nil))))))) (blkOk_by (own := [("height", 1), ("pair", 2)]) (N := n_from_highest) (sc := (defScope (topS 10))) (by decide +kernel)) (fun _ _ _ _ _ => (gg_tup rfl (ggs_cons (gg_name (i := 1) sc_from_highest.nd rfl (by first | exact .inl rfl | exact .inr rfl)) (ggs_cons (gg_name (i := 2) sc_from_highest.nd rfl (by first | exact .inl rfl | exact .inr rfl)) ggs_nil)))) (fun _ _ _ _ _ => gts_nil) (fun _ _ _ _ _ => (g_tup (ga_cons (g_var 2) (ga_cons (g_var 1) ga_nil)))))))
/-! ## last_waters -/
abbrev n_last_waters : List Str := ["islands", "fords", "found", "marks", "pair", "height", "other", "_"]
theorem sc_last_waters : FnScope n_last_waters ["islands", "fords"] (defScope (topS 11)) := ⟨rfl, rfl, rfl, by decide +kernel, rfl, by decide +kernel, by decide +kernel⟩
def b_last_waters : Sx := (sSeq (sMap true 2)
    (sSeq (sSet 3 (eArgs (callF 1 f_marks_alone) (asCons (eV 0) asNil)))
    (sSeq (sFor (.t [(.n 4), (.n 5)]) (iAnyS (eArgs (callF 1 f_from_highest) (asCons (eV 1) asNil))) (sIf (eNotT (eTest (eArgs (callF 2 f_joins) (asCons (eV 3) (asCons (eV 4) asNil))))) (sSeq (sSet 3 (eArgs (callF 2 f_merged) (asCons (eV 3) (asCons (eV 4) asNil))))
    (sFor (.t [(.n 6), (.n 7)]) (iAnyS (eV 1)) (sIf (eAndT (eTest (eHasN 2 (eV 6))) (eTest (eArgs (callF 2 f_joins) (asCons (eV 3) (asCons (eV 6) asNil))))) (sMapPut 2 (eV 6) (eV 5)) sNil))) sNil))
    (sRet (eV 2)))))
def f_last_waters : Fn := runF 8 b_last_waters
theorem ok_last_waters (B : Bn mg) (h_marks_alone : GF P w K mg base cm 1 "marks_alone" ["islands"] f_marks_alone) (h_joins : GF P w K mg base cm 1 "joins" ["marks", "pair"] f_joins) (h_merged : GF P w K mg base cm 1 "merged" ["marks", "pair"] f_merged) (h_from_highest : GF P w K mg base cm 1 "from_highest" ["fords"] f_from_highest) (F : L2.Fun K "last_waters" "last_waters" (topS 11) f fd) : FnOk P w K mg base (L2.CX P w) 2 f fd ["islands", "fords"] (spF cm 2 f_last_waters) :=
  gfn (k := 1) (N := n_last_waters) (ps := ["islands", "fords"]) (b := b_last_waters) F sc_last_waters fun cdv A outer s H E hr => (gss_cons (gs_map (i := 2) true sc_last_waters.nd rfl (by first | exact .inl rfl | exact .inr rfl))
    (gss_cons (gs_set (i := 3) sc_last_waters.nd rfl (by first | exact .inl rfl | exact .inr rfl) (g_call h_marks_alone (takes_of rfl rfl rfl rfl) (hr.mono (by decide)) (ga_cons (g_var 0) ga_nil)))
    (gss_cons (gs_for (passes_of rfl) rfl (gi_any (g_call h_from_highest (takes_of rfl rfl rfl rfl) (hr.mono (by decide)) (ga_cons (g_var 1) ga_nil))) (gg_tup rfl (ggs_cons (gg_name (i := 4) sc_last_waters.nd rfl (by first | exact .inl rfl | exact .inr rfl)) (ggs_cons (gg_name (i := 5) sc_last_waters.nd rfl (by first | exact .inl rfl | exact .inr rfl)) ggs_nil))) (gss_one (gs_if (gt_not (gt_val (g_call h_joins (takes_of rfl rfl rfl rfl) (hr.mono (by decide)) (ga_cons (g_var 3) (ga_cons (g_var 4) ga_nil))))) (gss_cons (gs_set (i := 3) sc_last_waters.nd rfl (by first | exact .inl rfl | exact .inr rfl) (g_call h_merged (takes_of rfl rfl rfl rfl) (hr.mono (by decide)) (ga_cons (g_var 3) (ga_cons (g_var 4) ga_nil))))
    (gss_one (gs_for (passes_of rfl) rfl (gi_any (g_var 1)) (gg_tup rfl (ggs_cons (gg_name (i := 6) sc_last_waters.nd rfl (by first | exact .inl rfl | exact .inr rfl)) (ggs_cons (gg_name (i := 7) sc_last_waters.nd rfl (by first | exact .inl rfl | exact .inr rfl)) ggs_nil))) (gss_one (gs_if (gw_pt (gw_and (gt_hasN (i := 2) hr rfl (g_var 6)) (gw_and1 (gt_val (g_call h_joins (takes_of rfl rfl rfl rfl) (hr.mono (by decide)) (ga_cons (g_var 3) (ga_cons (g_var 6) ga_nil))))))) (gss_one (gs_mput (i := 2) hr rfl (by first | exact Or.inl rfl | exact Or.inr (Or.inl rfl) | exact Or.inr (Or.inr rfl)) (by decide) (by decide) (g_var 6) (g_var 5))) gss_nil))))) gss_nil)))
    (gss_one (gs_ret (g_var 2))))))
/-! ## keeps_rule -/
abbrev n_keeps_rule : List Str := ["lasts", "rule", "wants", "gives", "pair"]
theorem sc_keeps_rule : FnScope n_keeps_rule ["lasts", "rule"] (defScope (topS 12)) := ⟨rfl, rfl, rfl, by decide +kernel, rfl, by decide +kernel, by decide +kernel⟩
def b_keeps_rule : Sx := (sSeq (sAsg (.t [(.n 2), (.n 3)]) (eV 1))
    (sRet (e2 (lift2 leF) (eArgs (liftA fMin) (asCons (eComp (.n 4) (iAnyS (eV 2)) yesT (e2 (lift2 ixAll) (eV 0) (eV 4)) [4]) asNil)) (e2 (lift2 ixAll) (eV 0) (eV 3)))))
def f_keeps_rule : Fn := runF 5 b_keeps_rule
theorem ok_keeps_rule (B : Bn mg)  (F : L2.Fun K "keeps_rule" "keeps_rule" (topS 12) f fd) : FnOk P w K mg base (L2.CX P w) 1 f fd ["lasts", "rule"] (spF cm 2 f_keeps_rule) :=
  gfn (k := 0) (N := n_keeps_rule) (ps := ["lasts", "rule"]) (b := b_keeps_rule) F sc_keeps_rule fun cdv A outer s H E hr => (gss_cons (gs_asg (g_var 1) (gg_tup rfl (ggs_cons (gg_name (i := 2) sc_keeps_rule.nd rfl (by first | exact .inl rfl | exact .inr rfl)) (ggs_cons (gg_name (i := 3) sc_keeps_rule.nd rfl (by first | exact .inl rfl | exact .inr rfl)) ggs_nil))))
    (gss_one (gs_ret (g_cmp o_le (g_callB (c_min rfl) B.min (ga_cons (g_comp (own := [("pair", 4)]) rfl sc_keeps_rule.nd (gi_any (g_var 2)) (blkOk_by (own := [("pair", 4)]) (N := n_keeps_rule) (sc := (defScope (topS 12))) (by decide +kernel)) (fun _ _ _ _ _ => (gg_name (i := 4) sc_keeps_rule.nd rfl (by first | exact .inl rfl | exact .inr rfl))) (fun _ _ _ _ _ => gts_nil) (fun _ _ _ _ _ => (g_ix (i_all hr) (g_var 0) (g_var 4)))) ga_nil)) (g_ix (i_all hr) (g_var 0) (g_var 3)) (nomark _)))))
/-! ## pairs_names -/
abbrev n_pairs_names : List Str := ["pairs", "pair", "name"]
theorem sc_pairs_names : FnScope n_pairs_names ["pairs"] (defScope (topS 14)) := ⟨rfl, rfl, rfl, by decide +kernel, rfl, by decide +kernel, by decide +kernel⟩
def b_pairs_names : Sx := (sRet (eComp2 (.n 1) (iAnyS (eV 0)) yesT (iAnyS (eV 1)) (.n 2) yesT (eV 2) [1, 2] [2]))
def f_pairs_names : Fn := runF 3 b_pairs_names
theorem ok_pairs_names (B : Bn mg)  (F : L2.Fun K "pairs_names" "pairs_names" (topS 14) f fd) : FnOk P w K mg base (L2.CX P w) 1 f fd ["pairs"] (spF cm 1 f_pairs_names) :=
  gfn (k := 0) (N := n_pairs_names) (ps := ["pairs"]) (b := b_pairs_names) F sc_pairs_names fun cdv A outer s H E hr => (gss_one (gs_ret (g_comp2 (own := [("pair", 1), ("name", 2)]) (vs1 := [2]) rfl sc_pairs_names.nd (gi_any (g_var 0)) (blkOk_by (own := [("pair", 1), ("name", 2)]) (N := n_pairs_names) (sc := (defScope (topS 14))) (by decide +kernel)) (by decide) (fun _ _ _ _ _ => (gg_name (i := 1) sc_pairs_names.nd rfl (by first | exact .inl rfl | exact .inr rfl))) (fun _ _ _ _ _ => gts_nil) (fun _ _ _ _ _ => (gi_any (g_var 1))) (fun _ _ _ _ _ => (gg_name (i := 2) sc_pairs_names.nd rfl (by first | exact .inl rfl | exact .inr rfl))) (fun _ _ _ _ _ => gts_nil) (fun _ _ _ _ _ => (g_var 2)))))
/-! ## check_islands -/
theorem sc_check_islands : FnScope ["islands", "names", "known", "name"] ["islands", "names"] (defScope (topS 15)) := ⟨rfl, rfl, rfl, by decide +kernel, rfl, by decide +kernel, by decide +kernel⟩
theorem ok_check_islands (B : Bn mg) (F : L2.Fun K "check_islands" "check_islands" (topS 15) f fd) : FnOk P w K mg base (L2.CX P w) 2 f fd ["islands", "names"] (spF cm 2 f_check_islands) := by
  refine F.okX sc_check_islands (fun vs H Q E h => ?_) (fun cdv A outer s H vs Q E hr h => ?_)
  · obtain ⟨_, _, _, _, _, h, _⟩ := h
    exact h
  obtain ⟨v, l, ss, ns, rfl, hv, hl, hn, hall, q⟩ := chk_sem (K := K) h
  refine ⟨_, pss_cons (ps_set (i := 2) sc_check_islands.nd rfl (Or.inl rfl) (pe_callTy (show CallR _ (.type "set") (rSetOfS K w) from cr_setOfS rfl) (by rfl) B.set (by decide +kernel) (pa_cons (pv 0) pa_nil)))
    (pss_one (ps_for (passes_of rfl) rfl (pi_seq (pv 1)) (pg_name (i := 3) sc_check_islands.nd rfl (Or.inl rfl))
      (pss_one (ps_if (pt_cmpR (show OpR _ (compareOp .NotIn) (rSInS w true) from or_snotinS) (pv 3) (pv 2) (by rfl)) (pss_one ps_never) pss_nil)))), ?_⟩
  refine ⟨_, rfl, v, ss, rfl, hv, by show _ < 4096; omega, fun a ts na nt mt => ?_⟩
  have s1 := same_new na (SetSO w a ts)
  have ha : upd H a (SetSO w a ts) a = some (SetSO w a ts) := upd_same
  have hl1 := hl.imp (s1 _ _) (s1 _ _)
  generalize upd H a (SetSO w a ts) = H1 at s1 ha hl1 ⊢
  rcases hl1 with hl1 | hl1
  · refine ⟨_, rfl, l, rfl, .inl ⟨⟨_, .of hl1⟩, ?_⟩⟩
    refine for_it (walk_list (K := K) (a := l) (xs := ns.map V.str)) (fun i σ H2 => ∃ t, σ = [some (.ref v), some (.ref l), some (.ref a), t] ∧ H2 = H1) ⟨none, rfl, rfl⟩ (fun i σ H2 _ hP => .of (by rw [hP.choose_spec.2]; exact hl1)) (fun i x σ H2 H3 hi hP hY => ?_) (fun σ H2 hP => ?_)
    · obtain ⟨rfl, hx⟩ := hY
      obtain ⟨t, rfl, rfl⟩ := hP
      obtain ⟨n, hn1, rfl⟩ := strs_at hx
      refine ⟨_, rfl, _, rfl, n, a, ts, rfl, rfl, ha, _, rfl, ?_⟩
      rw [decide_eq_true ((mt n).mpr (hall n (List.mem_of_getElem? hn1)))]
      exact iteF ⟨_, rfl, rfl⟩
    · obtain ⟨t, rfl, rfl⟩ := hP
      exact q _ s1
  · refine ⟨_, rfl, l, rfl, .inr ⟨⟨_, .of hl1⟩, ?_⟩⟩
    refine for_it (walk_tup (K := K) (a := l) (xs := ns.map V.str)) (fun i σ H2 => ∃ t, σ = [some (.ref v), some (.ref l), some (.ref a), t] ∧ H2 = H1) ⟨none, rfl, rfl⟩ (fun i σ H2 _ hP => .of (by rw [hP.choose_spec.2]; exact hl1)) (fun i x σ H2 H3 hi hP hY => ?_) (fun σ H2 hP => ?_)
    · obtain ⟨rfl, hx⟩ := hY
      obtain ⟨t, rfl, rfl⟩ := hP
      obtain ⟨n, hn1, rfl⟩ := strs_at hx
      refine ⟨_, rfl, _, rfl, n, a, ts, rfl, rfl, ha, _, rfl, ?_⟩
      rw [decide_eq_true ((mt n).mpr (hall n (List.mem_of_getElem? hn1)))]
      exact iteF ⟨_, rfl, rfl⟩
    · obtain ⟨t, rfl, rfl⟩ := hP
      exact q _ s1

/-! ## islands_of -/
abbrev n_islands_of : List Str := ["fords", "pair", "_"]
theorem sc_islands_of : FnScope n_islands_of ["fords"] (defScope (topS 17)) := ⟨rfl, rfl, rfl, by decide +kernel, rfl, by decide +kernel, by decide +kernel⟩
def b_islands_of : Sx := (sRet (eArgs (callF 1 f_ascending) (asCons (eArgs (callF 1 f_pairs_names) (asCons (eComp (.t [(.n 1), (.n 2)]) (iAnyS (eV 0)) yesT (eV 1) [1, 2]) asNil)) asNil)))
def f_islands_of : Fn := runF 3 b_islands_of
theorem ok_islands_of (B : Bn mg) (h_ascending : GF P w K mg base cm 1 "ascending" ["values"] f_ascending) (h_pairs_names : GF P w K mg base cm 1 "pairs_names" ["pairs"] f_pairs_names) (F : L2.Fun K "islands_of" "islands_of" (topS 17) f fd) : FnOk P w K mg base (L2.CX P w) 2 f fd ["fords"] (spF cm 1 f_islands_of) :=
  gfn (k := 1) (N := n_islands_of) (ps := ["fords"]) (b := b_islands_of) F sc_islands_of fun cdv A outer s H E hr => (gss_one (gs_ret (g_call h_ascending (takes_of rfl rfl rfl rfl) (hr.mono (by decide)) (ga_cons (g_call h_pairs_names (takes_of rfl rfl rfl rfl) (hr.mono (by decide)) (ga_cons (g_comp (own := [("pair", 1), ("_", 2)]) rfl sc_islands_of.nd (gi_any (g_var 0)) (blkOk_by (own := [("pair", 1), ("_", 2)]) (N := n_islands_of) (sc := (defScope (topS 17))) (by decide +kernel)) (fun _ _ _ _ _ => (gg_tup rfl (ggs_cons (gg_name (i := 1) sc_islands_of.nd rfl (by first | exact .inl rfl | exact .inr rfl)) (ggs_cons (gg_name (i := 2) sc_islands_of.nd rfl (by first | exact .inl rfl | exact .inr rfl)) ggs_nil)))) (fun _ _ _ _ _ => gts_nil) (fun _ _ _ _ _ => (g_var 1))) ga_nil)) ga_nil))))
/-! ## lasts_by -/
abbrev n_lasts_by : List Str := ["fords"]
theorem sc_lasts_by : FnScope n_lasts_by ["fords"] (defScope (topS 18)) := ⟨rfl, rfl, rfl, by decide +kernel, rfl, by decide +kernel, by decide +kernel⟩
def b_lasts_by : Sx := (sRet (eArgs (callF 2 f_last_waters) (asCons (eArgs (callF 1 f_islands_of) (asCons (eV 0) asNil)) (asCons (eArgs (callF 1 (f_frozen 8)) (asCons (eV 0) asNil)) asNil))))
def f_lasts_by : Fn := runF 1 b_lasts_by
theorem ok_lasts_by (B : Bn mg) (h_frozen : GF P w K mg base cm 9 "frozen" ["value"] (f_frozen 8)) (h_last_waters : GF P w K mg base cm 2 "last_waters" ["islands", "fords"] f_last_waters) (h_islands_of : GF P w K mg base cm 2 "islands_of" ["fords"] f_islands_of) (F : L2.Fun K "lasts_by" "lasts_by" (topS 18) f fd) : FnOk P w K mg base (L2.CX P w) 10 f fd ["fords"] (spF cm 1 f_lasts_by) :=
  gfn (k := 9) (N := n_lasts_by) (ps := ["fords"]) (b := b_lasts_by) F sc_lasts_by fun cdv A outer s H E hr => (gss_one (gs_ret (g_call h_last_waters (takes_of rfl rfl rfl rfl) (hr.mono (by decide)) (ga_cons (g_call h_islands_of (takes_of rfl rfl rfl rfl) (hr.mono (by decide)) (ga_cons (g_var 0) ga_nil)) (ga_cons (g_call h_frozen (takes_of rfl rfl rfl rfl) (hr.mono (by decide)) (ga_cons (g_var 0) ga_nil)) ga_nil)))))
/-! ## asked_rule -/
abbrev n_asked_rule : List Str := ["fords", "wants", "gives"]
theorem sc_asked_rule : FnScope n_asked_rule ["fords", "wants", "gives"] (defScope (topS 19)) := ⟨rfl, rfl, rfl, by decide +kernel, rfl, by decide +kernel, by decide +kernel⟩
def b_asked_rule : Sx := (sSeq (sExpr (eArgs (callF 2 f_check_islands) (asCons (eArgs (callF 1 f_islands_of) (asCons (eV 0) asNil)) (asCons (eArgs (callF 1 f_pairs_names) (asCons (eArgs mkTup (asStar (eV 1) (asCons (eV 2) asNil))) asNil)) asNil))))
    (sRet (eArgs mkTup (asCons (eArgs (callF 1 (f_frozen 8)) (asCons (eV 1) asNil)) (asCons (eArgs (callF 1 (f_frozen 8)) (asCons (eV 2) asNil)) asNil)))))
def f_asked_rule : Fn := runF 3 b_asked_rule
theorem ok_asked_rule (B : Bn mg) (h_frozen : GF P w K mg base cm 9 "frozen" ["value"] (f_frozen 8)) (h_pairs_names : GF P w K mg base cm 1 "pairs_names" ["pairs"] f_pairs_names) (h_check_islands : GF P w K mg base cm 2 "check_islands" ["islands", "names"] f_check_islands) (h_islands_of : GF P w K mg base cm 2 "islands_of" ["fords"] f_islands_of) (F : L2.Fun K "asked_rule" "asked_rule" (topS 19) f fd) : FnOk P w K mg base (L2.CX P w) 10 f fd ["fords", "wants", "gives"] (spF cm 3 f_asked_rule) :=
  gfn (k := 9) (N := n_asked_rule) (ps := ["fords", "wants", "gives"]) (b := b_asked_rule) F sc_asked_rule fun cdv A outer s H E hr => (gss_cons (gs_expr (g_call h_check_islands (takes_of rfl rfl rfl rfl) (hr.mono (by decide)) (ga_cons (g_call h_islands_of (takes_of rfl rfl rfl rfl) (hr.mono (by decide)) (ga_cons (g_var 0) ga_nil)) (ga_cons (g_call h_pairs_names (takes_of rfl rfl rfl rfl) (hr.mono (by decide)) (ga_cons (g_tup (ga_star (g_var 1) (ga_cons (g_var 2) ga_nil))) ga_nil)) ga_nil))))
    (gss_one (gs_ret (g_tup (ga_cons (g_call h_frozen (takes_of rfl rfl rfl rfl) (hr.mono (by decide)) (ga_cons (g_var 1) ga_nil)) (ga_cons (g_call h_frozen (takes_of rfl rfl rfl rfl) (hr.mono (by decide)) (ga_cons (g_var 2) ga_nil)) ga_nil))))))
/-! ## fords_keep -/
abbrev n_fords_keep : List Str := ["fords", "wants", "gives", "rule"]
theorem sc_fords_keep : FnScope n_fords_keep ["fords", "wants", "gives"] (defScope (topS 20)) := ⟨rfl, rfl, rfl, by decide +kernel, rfl, by decide +kernel, by decide +kernel⟩
def b_fords_keep : Sx := (sSeq (sSet 3 (eArgs (callF 3 f_asked_rule) (asCons (eV 0) (asCons (eV 1) (asCons (eV 2) asNil)))))
    (sRet (eArgs (callF 2 f_keeps_rule) (asCons (eArgs (callF 1 f_lasts_by) (asCons (eV 0) asNil)) (asCons (eV 3) asNil)))))
def f_fords_keep : Fn := runF 4 b_fords_keep
theorem ok_fords_keep (B : Bn mg) (h_keeps_rule : GF P w K mg base cm 1 "keeps_rule" ["lasts", "rule"] f_keeps_rule) (h_lasts_by : GF P w K mg base cm 10 "lasts_by" ["fords"] f_lasts_by) (h_asked_rule : GF P w K mg base cm 10 "asked_rule" ["fords", "wants", "gives"] f_asked_rule) (F : L2.Fun K "fords_keep" "fords_keep" (topS 20) f fd) : FnOk P w K mg base (L2.CX P w) 11 f fd ["fords", "wants", "gives"] (spF cm 3 f_fords_keep) :=
  gfn (k := 10) (N := n_fords_keep) (ps := ["fords", "wants", "gives"]) (b := b_fords_keep) F sc_fords_keep fun cdv A outer s H E hr => (gss_cons (gs_set (i := 3) sc_fords_keep.nd rfl (by first | exact .inl rfl | exact .inr rfl) (g_call h_asked_rule (takes_of rfl rfl rfl rfl) (hr.mono (by decide)) (ga_cons (g_var 0) (ga_cons (g_var 1) (ga_cons (g_var 2) ga_nil)))))
    (gss_one (gs_ret (g_call h_keeps_rule (takes_of rfl rfl rfl rfl) (hr.mono (by decide)) (ga_cons (g_call h_lasts_by (takes_of rfl rfl rfl rfl) (hr.mono (by decide)) (ga_cons (g_var 0) ga_nil)) (ga_cons (g_var 3) ga_nil))))))
/-! ## broken_at -/
abbrev n_broken_at : List Str := ["fords", "wants", "gives", "rule", "lasts"]
theorem sc_broken_at : FnScope n_broken_at ["fords", "wants", "gives"] (defScope (topS 21)) := ⟨rfl, rfl, rfl, by decide +kernel, rfl, by decide +kernel, by decide +kernel⟩
def b_broken_at : Sx := (sSeq (sSet 3 (eArgs (callF 3 f_asked_rule) (asCons (eV 0) (asCons (eV 1) (asCons (eV 2) asNil)))))
    (sSeq (sSet 4 (eArgs (callF 1 f_lasts_by) (asCons (eV 0) asNil)))
    (sSeq (sIf (eTest (eArgs (callF 2 f_keeps_rule) (asCons (eV 4) (asCons (eV 3) asNil)))) (sRet (eK .none)) sNil)
    (sRet (e2 (lift2 ixAll) (eV 4) (e2 (lift2 ixAll) (eV 3) (eK (.int 1))))))))
def f_broken_at : Fn := runF 5 b_broken_at
theorem ok_broken_at (B : Bn mg) (h_keeps_rule : GF P w K mg base cm 1 "keeps_rule" ["lasts", "rule"] f_keeps_rule) (h_lasts_by : GF P w K mg base cm 10 "lasts_by" ["fords"] f_lasts_by) (h_asked_rule : GF P w K mg base cm 10 "asked_rule" ["fords", "wants", "gives"] f_asked_rule) (F : L2.Fun K "broken_at" "broken_at" (topS 21) f fd) : FnOk P w K mg base (L2.CX P w) 11 f fd ["fords", "wants", "gives"] (spF cm 3 f_broken_at) :=
  gfn (k := 10) (N := n_broken_at) (ps := ["fords", "wants", "gives"]) (b := b_broken_at) F sc_broken_at fun cdv A outer s H E hr => (gss_cons (gs_set (i := 3) sc_broken_at.nd rfl (by first | exact .inl rfl | exact .inr rfl) (g_call h_asked_rule (takes_of rfl rfl rfl rfl) (hr.mono (by decide)) (ga_cons (g_var 0) (ga_cons (g_var 1) (ga_cons (g_var 2) ga_nil)))))
    (gss_cons (gs_set (i := 4) sc_broken_at.nd rfl (by first | exact .inl rfl | exact .inr rfl) (g_call h_lasts_by (takes_of rfl rfl rfl rfl) (hr.mono (by decide)) (ga_cons (g_var 0) ga_nil)))
    (gss_cons (gs_if (gt_val (g_call h_keeps_rule (takes_of rfl rfl rfl rfl) (hr.mono (by decide)) (ga_cons (g_var 4) (ga_cons (g_var 3) ga_nil)))) (gss_one (gs_ret g_non)) gss_nil)
    (gss_one (gs_ret (g_ix (i_all hr) (g_var 4) (g_ix (i_all hr) (g_var 3) g_int)))))))
/-! ## the law's take -/
abbrev n__law_take : List Str := ["_law_urn", "_law_low_so", "_law_drawn", "_law_once", "_law_far", "_law_twice"]
theorem sc__law_take : FnScope n__law_take ["_law_urn", "_law_low_so"] (defScope (topS 24)) := ⟨rfl, rfl, rfl, by decide +kernel, rfl, by decide +kernel, by decide +kernel⟩
def b__law_take : Sx := (sSeq (sIf (eTest (e2 (lift2 gtF) (e2 (lift2 ixLT) (eV 0) (eK (.int 0))) (eK (.int 0)))) (sSeq (sSet 2 (e2 (lift2 modD) (eArgs (liftA fInt) (asCons (e2 (lift2 ixLT) (eV 0) (eK (.int 0))) asNil)) (eV 1)))
    (sSeq (sPut 0 (eK (.int 0)) (e2 (lift2 divD) (e2 (lift2 ixLT) (eV 0) (eK (.int 0))) (eV 1)))
    (sRet (eV 2)))) sNil)
    (sSeq (sPut 0 (eK (.int 2)) (e2 (lift2 addD) (e2 (lift2 ixLT) (eV 0) (eK (.int 2))) (eK (.int 1))))
    (sSeq (sSet 3 (e2 (lift2 modD) (eArgs (liftA fInt) (asCons (e2 (lift2 mulD) (e2 (lift2 addD) (e2 (lift2 ixLT) (eV 0) (eK (.int 1))) (e2 (lift2 mulD) (eK (.int 48271)) (e2 (lift2 ixLT) (eV 0) (eK (.int 2))))) (e2 (lift2 addD) (eK (.int 39373)) (e2 (lift2 ixLT) (eV 0) (eK (.int 2))))) asNil)) (eK (.int 2147483647))))
    (sSeq (sSet 4 (e2 (lift2 addD) (e2 (lift2 modD) (eArgs (liftA fInt) (asCons (eV 3) asNil)) (eK (.int 40009))) (eK (.int 7))))
    (sSeq (sSet 5 (e2 (lift2 modD) (eArgs (liftA fInt) (asCons (e2 (lift2 mulD) (e2 (lift2 addD) (e2 (lift2 addD) (eV 3) (e2 (lift2 ixLT) (eV 0) (eK (.int 2)))) (e2 (lift2 divD) (e2 (lift2 ixLT) (eV 0) (eK (.int 1))) (eK (.int 1000003)))) (eV 4)) asNil)) (eK (.int 2147483629))))
    (sRet (e2 (lift2 modD) (eArgs (liftA fInt) (asCons (e2 (lift2 divD) (e2 (lift2 modD) (eArgs (liftA fInt) (asCons (e2 (lift2 addD) (e2 (lift2 mulD) (eV 5) (eK (.int 48271))) (eV 3)) asNil)) (eK (.int 2147483587))) (eK (.int 64))) asNil)) (eV 1))))))))
def f__law_take : Fn := runF 6 b__law_take
theorem ok__law_take (B : Bn mg)  (F : L2.Fun K "_law_take" "_law_take" (topS 24) f fd) : FnOk P w K mg base (L2.CX P w) 1 f fd ["_law_urn", "_law_low_so"] (spF cm 2 f__law_take) :=
  gfn (k := 0) (N := n__law_take) (ps := ["_law_urn", "_law_low_so"]) (b := b__law_take) F sc__law_take fun cdv A outer s H E hr => (gss_cons (gs_if (gt_cmp o_gt (g_ix i_seq (g_var 0) g_int) g_int (nomark _)) (gss_cons (gs_set (i := 2) sc__law_take.nd rfl (by first | exact .inl rfl | exact .inr rfl) (g_op o_mod (g_callTy c_int B.int (ga_cons (g_ix i_seq (g_var 0) g_int) ga_nil)) (g_var 1)))
    (gss_cons (gs_put (i := 0) rfl (by first | exact Or.inl rfl | exact Or.inr (Or.inl rfl) | exact Or.inr (Or.inr rfl)) (by decide) (by decide) g_int (g_op o_div (g_ix i_seq (g_var 0) g_int) (g_var 1)))
    (gss_one (gs_ret (g_var 2))))) gss_nil)
    (gss_cons (gs_put (i := 0) rfl (by first | exact Or.inl rfl | exact Or.inr (Or.inl rfl) | exact Or.inr (Or.inr rfl)) (by decide) (by decide) g_int (g_op o_add (g_ix i_seq (g_var 0) g_int) g_int))
    (gss_cons (gs_set (i := 3) sc__law_take.nd rfl (by first | exact .inl rfl | exact .inr rfl) (g_op o_mod (g_callTy c_int B.int (ga_cons (g_op o_mul (g_op o_add (g_ix i_seq (g_var 0) g_int) (g_op o_mul g_int (g_ix i_seq (g_var 0) g_int))) (g_op o_add g_int (g_ix i_seq (g_var 0) g_int))) ga_nil)) g_int))
    (gss_cons (gs_set (i := 4) sc__law_take.nd rfl (by first | exact .inl rfl | exact .inr rfl) (g_op o_add (g_op o_mod (g_callTy c_int B.int (ga_cons (g_var 3) ga_nil)) g_int) g_int))
    (gss_cons (gs_set (i := 5) sc__law_take.nd rfl (by first | exact .inl rfl | exact .inr rfl) (g_op o_mod (g_callTy c_int B.int (ga_cons (g_op o_mul (g_op o_add (g_op o_add (g_var 3) (g_ix i_seq (g_var 0) g_int)) (g_op o_div (g_ix i_seq (g_var 0) g_int) g_int)) (g_var 4)) ga_nil)) g_int))
    (gss_one (gs_ret (g_op o_mod (g_callTy c_int B.int (ga_cons (g_op o_div (g_op o_mod (g_callTy c_int B.int (ga_cons (g_op o_add (g_op o_mul (g_var 5) g_int) (g_var 3)) ga_nil)) g_int) g_int) ga_nil)) (g_var 1)))))))))
/-! ## the law's of -/
abbrev n__law_of : List Str := ["_law_urn", "_law_some_so"]
theorem sc__law_of : FnScope n__law_of ["_law_urn", "_law_some_so"] (defScope (topS 26)) := ⟨rfl, rfl, rfl, by decide +kernel, rfl, by decide +kernel, by decide +kernel⟩
def b__law_of : Sx := (sRet (e2 (lift2 ixAll) (eV 1) (eArgs (callF 2 f__law_take) (asCons (eV 0) (asCons (eArgs (liftA fLen) (asCons (eV 1) asNil)) asNil)))))
def f__law_of : Fn := runF 2 b__law_of
theorem ok__law_of (B : Bn mg) (h__law_take : GF P w K mg base cm 1 "_law_take" ["_law_urn", "_law_low_so"] f__law_take) (F : L2.Fun K "_law_of" "_law_of" (topS 26) f fd) : FnOk P w K mg base (L2.CX P w) 2 f fd ["_law_urn", "_law_some_so"] (spF cm 2 f__law_of) :=
  gfn (k := 1) (N := n__law_of) (ps := ["_law_urn", "_law_some_so"]) (b := b__law_of) F sc__law_of fun cdv A outer s H E hr => (gss_one (gs_ret (g_ix (i_all hr) (g_var 1) (g_call h__law_take (takes_of rfl rfl rfl rfl) (hr.mono (by decide)) (ga_cons (g_var 0) (ga_cons (g_callB c_len B.len (ga_cons (g_var 1) ga_nil)) ga_nil))))))
/-! ## the law's same -/
abbrev n__law_same : List Str := ["_law_got", "_law_goal", "_law_mine_so", "_law_own"]
theorem sc__law_same : FnScope n__law_same ["_law_got", "_law_goal"] (defScope (topS 27)) := ⟨rfl, rfl, rfl, by decide +kernel, rfl, by decide +kernel, by decide +kernel⟩
def b__law_same (f_ : Fn) : Sx := (sSeq (sIf (eTest (e1 (lift1 (isi2F .list .tuple)) (eV 1))) (sSeq (sIf (eOrT (eTest (e2 (lift2 neF) (e1 (lift1 (isiF .list)) (eV 0)) (e1 (lift1 (isiF .list)) (eV 1)))) (eTest (e2 (lift2 neF) (e1 (lift1 (isiF .tuple)) (eV 0)) (e1 (lift1 (isiF .tuple)) (eV 1))))) (sRet (eK (.bool false))) sNil)
    (sRet (eAnd (e2 (lift2 eqF) (eArgs (liftA fLen) (asCons (eV 0) asNil)) (eArgs (liftA fLen) (asCons (eV 1) asNil))) (eArgs (liftA fAll) (asCons (eComp (.t [(.n 2), (.n 3)]) (iArgs zip2 (asCons (eV 0) (asCons (eV 1) asNil))) yesT (eArgs (callF 2 f_) (asCons (eV 2) (asCons (eV 3) asNil))) [2, 3]) asNil))))) sNil)
    (sSeq (sIf (eOrT (eTest (e2 (lift2 isF) (eV 1) (eK .none))) (eTest (e1 (lift1 (isi2F .bool .str)) (eV 1)))) (sRet (eAnd (e2 (lift2 eqF) (eV 0) (eV 1)) (eAnd (e2 (lift2 eqF) (e1 (lift1 (isiF .bool)) (eV 0)) (e1 (lift1 (isiF .bool)) (eV 1))) (e2 (lift2 eqF) (e2 (lift2 isF) (eV 0) (eK .none)) (e2 (lift2 isF) (eV 1) (eK .none)))))) sNil)
    (sRet (eAnd (e1 (lift1 (isiF .int)) (eV 0)) (eAnd (eNot (e1 (lift1 (isiF .bool)) (eV 0))) (e2 (lift2 eqF) (eV 0) (eV 1)))))))
def f__law_same : Nat → Fn
  | 0 => fNo
  | k + 1 => runF 4 (b__law_same (f__law_same k))
theorem ok__law_same (B : Bn mg)  {k : Nat} {f_ : Fn} (h__law_same : GF P w K mg base cm (k + 1) "_law_same" ["_law_got", "_law_goal"] f_) (F : L2.Fun K "_law_same" "_law_same" (topS 27) f fd) : FnOk P w K mg base (L2.CX P w) (k + 1 + 1) f fd ["_law_got", "_law_goal"] (spF cm 2 (runF 4 (b__law_same f_))) :=
  gfn (k := k + 1) (N := n__law_same) (ps := ["_law_got", "_law_goal"]) (b := b__law_same f_) F sc__law_same fun cdv A outer s H E hr => (gss_cons (gs_if (gt_val (g_isi2 .list .tuple B.isinstance B.list B.tuple (g_var 1) (by decide +kernel) (by decide +kernel))) (gss_cons (gs_if (gw_pt (gw_or (gt_cmp (o_ne hr) (g_isi .list B.isinstance B.list (g_var 0) (by decide +kernel)) (g_isi .list B.isinstance B.list (g_var 1) (by decide +kernel)) (nomark _)) (gw_or1 (gt_cmp (o_ne hr) (g_isi .tuple B.isinstance B.tuple (g_var 0) (by decide +kernel)) (g_isi .tuple B.isinstance B.tuple (g_var 1) (by decide +kernel)) (nomark _))))) (gss_one (gs_ret g_bl)) gss_nil)
    (gss_one (gs_ret (g_and (g_cmp (o_eq hr) (g_callB c_len B.len (ga_cons (g_var 0) ga_nil)) (g_callB c_len B.len (ga_cons (g_var 1) ga_nil)) (nomark _)) (g_one (g_callB (c_all rfl) B.all (ga_cons (g_comp (own := [("_law_mine_so", 2), ("_law_own", 3)]) rfl sc__law_same.nd (gi_zip B.zip (ga_cons (g_var 0) (ga_cons (g_var 1) ga_nil))) (blkOk_by (own := [("_law_mine_so", 2), ("_law_own", 3)]) (N := n__law_same) (sc := (defScope (topS 27))) (by decide +kernel)) (fun _ _ _ _ _ => (gg_tup rfl (ggs_cons (gg_name (i := 2) sc__law_same.nd rfl (by first | exact .inl rfl | exact .inr rfl)) (ggs_cons (gg_name (i := 3) sc__law_same.nd rfl (by first | exact .inl rfl | exact .inr rfl)) ggs_nil)))) (fun _ _ _ _ _ => gts_nil) (fun _ _ _ _ _ => (g_call h__law_same takes0 (hr.mono (by omega)) (ga_cons (g_var 2) (ga_cons (g_var 3) ga_nil))))) ga_nil))))))) gss_nil)
    (gss_cons (gs_if (gw_pt (gw_or (gt_cmp o_is (g_var 1) g_non (nomark _)) (gw_or1 (gt_val (g_isi2 .bool .str B.isinstance B.bool B.str (g_var 1) (by decide +kernel) (by decide +kernel)))))) (gss_one (gs_ret (g_and (g_cmp (o_eq hr) (g_var 0) (g_var 1) (nomark _)) (g_and (g_cmp (o_eq hr) (g_isi .bool B.isinstance B.bool (g_var 0) (by decide +kernel)) (g_isi .bool B.isinstance B.bool (g_var 1) (by decide +kernel)) (nomark _)) (g_one (g_cmp (o_eq hr) (g_cmp o_is (g_var 0) g_non (nomark _)) (g_cmp o_is (g_var 1) g_non (nomark _)) (nomark _))))))) gss_nil)
    (gss_one (gs_ret (g_and (g_isi .int B.isinstance B.int (g_var 0) (by decide +kernel)) (g_and (g_not (g_isi .bool B.isinstance B.bool (g_var 0) (by decide +kernel))) (g_one (g_cmp (o_eq hr) (g_var 0) (g_var 1) (nomark _)))))))))
theorem gf__law_same (B : Bn mg)  (F : L2.Fun K "_law_same" "_law_same" (topS 27) f fd) (hm : mg "_law_same" = some (.ref f)) (hb : Binds K fd ["_law_got", "_law_goal"] []) : ∀ k : Nat, GF P w K mg base cm (k + 1) "_law_same" ["_law_got", "_law_goal"] (f__law_same k)
  | 0 => ⟨f, fd, fn_none, hm, F.kp, hb⟩
  | k + 1 => ⟨f, fd, ok__law_same B  (gf__law_same B  F hm hb k) F, hm, F.kp, hb⟩
/-! ## the law's lists -/
abbrev n__law_lists : List Str := ["_law_matter", "_law_bit"]
theorem sc__law_lists : FnScope n__law_lists ["_law_matter"] (defScope (topS 28)) := ⟨rfl, rfl, rfl, by decide +kernel, rfl, by decide +kernel, by decide +kernel⟩
def b__law_lists (f_ : Fn) : Sx := (sRet (eIf (eTest (e1 (lift1 (isi2F .list .tuple)) (eV 0))) (eComp (.n 1) (iAnyS (eV 0)) yesT (eArgs (callF 1 f_) (asCons (eV 1) asNil)) [1]) (eV 0)))
def f__law_lists : Nat → Fn
  | 0 => fNo
  | k + 1 => runF 2 (b__law_lists (f__law_lists k))
theorem ok__law_lists (B : Bn mg)  {k : Nat} {f_ : Fn} (h__law_lists : GF P w K mg base cm (k + 1) "_law_lists" ["_law_matter"] f_) (F : L2.Fun K "_law_lists" "_law_lists" (topS 28) f fd) : FnOk P w K mg base (L2.CX P w) (k + 1 + 1) f fd ["_law_matter"] (spF cm 1 (runF 2 (b__law_lists f_))) :=
  gfn (k := k + 1) (N := n__law_lists) (ps := ["_law_matter"]) (b := b__law_lists f_) F sc__law_lists fun cdv A outer s H E hr => (gss_one (gs_ret (g_if (gt_val (g_isi2 .list .tuple B.isinstance B.list B.tuple (g_var 0) (by decide +kernel) (by decide +kernel))) (g_comp (own := [("_law_bit", 1)]) rfl sc__law_lists.nd (gi_any (g_var 0)) (blkOk_by (own := [("_law_bit", 1)]) (N := n__law_lists) (sc := (defScope (topS 28))) (by decide +kernel)) (fun _ _ _ _ _ => (gg_name (i := 1) sc__law_lists.nd rfl (by first | exact .inl rfl | exact .inr rfl))) (fun _ _ _ _ _ => gts_nil) (fun _ _ _ _ _ => (g_call h__law_lists takes0 (hr.mono (by omega)) (ga_cons (g_var 1) ga_nil)))) (g_var 0))))
theorem gf__law_lists (B : Bn mg)  (F : L2.Fun K "_law_lists" "_law_lists" (topS 28) f fd) (hm : mg "_law_lists" = some (.ref f)) (hb : Binds K fd ["_law_matter"] []) : ∀ k : Nat, GF P w K mg base cm (k + 1) "_law_lists" ["_law_matter"] (f__law_lists k)
  | 0 => ⟨f, fd, fn_none, hm, F.kp, hb⟩
  | k + 1 => ⟨f, fd, ok__law_lists B  (gf__law_lists B  F hm hb k) F, hm, F.kp, hb⟩
/-! ## the law's pick -/
abbrev n__law_pick : List Str := ["_law_urn", "_law_pool", "_law_size_so", "_law_rest", "_law_found", "_law_turn"]
theorem sc__law_pick : FnScope n__law_pick ["_law_urn", "_law_pool", "_law_size_so"] (defScope (topS 29)) := ⟨rfl, rfl, rfl, by decide +kernel, rfl, by decide +kernel, by decide +kernel⟩
def b__law_pick : Sx := (sSeq (sNew2 3 4 (eArgs ownOf (asCons (eV 1) asNil)) (eArgs mkOwn asNil))
    (sSeq (sFor (.n 5) (iArgs rng1 (asCons (eArgs (liftA fMin) (asCons (eV 2) (asCons (eArgs (liftA fLen) (asCons (eV 3) asNil)) asNil))) asNil)) (sAppPop 4 3 (eArgs (callF 2 f__law_take) (asCons (eV 0) (asCons (eArgs (liftA fLen) (asCons (eV 3) asNil)) asNil)))))
    (sRet (eV 4))))
def f__law_pick : Fn := runF 6 b__law_pick
theorem ok__law_pick (B : Bn mg) (h__law_take : GF P w K mg base cm 1 "_law_take" ["_law_urn", "_law_low_so"] f__law_take) (F : L2.Fun K "_law_pick" "_law_pick" (topS 29) f fd) : FnOk P w K mg base (L2.CX P w) 2 f fd ["_law_urn", "_law_pool", "_law_size_so"] (spF cm 3 f__law_pick) :=
  gfn (k := 1) (N := n__law_pick) (ps := ["_law_urn", "_law_pool", "_law_size_so"]) (b := b__law_pick) F sc__law_pick fun cdv A outer s H E hr => (gss_cons (gs_new2 (i := 3) (j := 4) rfl sc__law_pick.nd rfl rfl (by decide) rfl rfl (gn_list B.list (ga_cons (g_var 1) ga_nil)) (gn_lst ga_nil) rfl rfl rfl)
    (gss_cons (gs_for (passes_of rfl) rfl (gi_range1 B.range (ga_cons (g_callB (c_min rfl) B.min (ga_cons (g_var 2) (ga_cons (g_callB c_len B.len (ga_cons (g_var 3) ga_nil)) ga_nil))) ga_nil)) (gg_name (i := 5) sc__law_pick.nd rfl (by first | exact .inl rfl | exact .inr rfl)) (gss_one (gs_apppop (i := 4) (j := 3) (by decide) rfl (by first | exact Or.inl rfl | exact Or.inr (Or.inl rfl) | exact Or.inr (Or.inr rfl)) rfl (by first | exact Or.inl rfl | exact Or.inr (Or.inl rfl) | exact Or.inr (Or.inr rfl)) (by decide) (by decide) (by decide) (by decide) (g_call h__law_take (takes_of rfl rfl rfl rfl) (hr.mono (by decide)) (ga_cons (g_var 0) (ga_cons (g_callB c_len B.len (ga_cons (g_var 3) ga_nil)) ga_nil))))))
    (gss_one (gs_ret (g_var 4)))))
/-! ## the law's isles -/
abbrev n__law_isles : List Str := ["_law_urn", "_law_size_so"]
theorem sc__law_isles : FnScope n__law_isles ["_law_urn", "_law_size_so"] (defScope (topS 30)) := ⟨rfl, rfl, rfl, by decide +kernel, rfl, by decide +kernel, by decide +kernel⟩
def b__law_isles : Sx := (sRet (eArgs (liftA fTuple) (asCons (eArgs (liftA fSortedB) (asCons (eArgs (callF 3 f__law_pick) (asCons (eV 0) (asCons (eArgs mkLst (asCons (eK (.str "a")) (asCons (eK (.str "b")) (asCons (eK (.str "c")) (asCons (eK (.str "d")) (asCons (eK (.str "e")) (asCons (eK (.str "ab")) (asCons (eK (.str "ba")) (asCons (eK (.str "abcdefgh")) (asCons (eK (.str "abcdefgi")) (asCons (eK (.str "x")) (asCons (eK (.str "zz")) (asCons (eK (.str "q")) asNil))))))))))))) (asCons (eV 1) asNil)))) asNil)) asNil)))
def f__law_isles : Fn := runF 2 b__law_isles
theorem ok__law_isles (B : Bn mg) (h__law_pick : GF P w K mg base cm 2 "_law_pick" ["_law_urn", "_law_pool", "_law_size_so"] f__law_pick) (F : L2.Fun K "_law_isles" "_law_isles" (topS 30) f fd) : FnOk P w K mg base (L2.CX P w) 3 f fd ["_law_urn", "_law_size_so"] (spF cm 2 f__law_isles) :=
  gfn (k := 2) (N := n__law_isles) (ps := ["_law_urn", "_law_size_so"]) (b := b__law_isles) F sc__law_isles fun cdv A outer s H E hr => (gss_one (gs_ret (g_callTy c_tuple B.tuple (ga_cons (g_callB (c_sortedB hr) B.sorted (ga_cons (g_call h__law_pick (takes_of rfl rfl rfl rfl) (hr.mono (by decide)) (ga_cons (g_var 0) (ga_cons (g_lst (ga_cons g_str (ga_cons g_str (ga_cons g_str (ga_cons g_str (ga_cons g_str (ga_cons g_str (ga_cons g_str (ga_cons g_str (ga_cons g_str (ga_cons g_str (ga_cons g_str (ga_cons g_str ga_nil))))))))))))) (ga_cons (g_var 1) ga_nil)))) ga_nil)) ga_nil))))
/-! ## the law's pairs -/
abbrev n__law_pairs : List Str := ["_law_tags", "_law_found", "_law_k", "_law_one", "_law_own"]
theorem sc__law_pairs : FnScope n__law_pairs ["_law_tags"] (defScope (topS 31)) := ⟨rfl, rfl, rfl, by decide +kernel, rfl, by decide +kernel, by decide +kernel⟩
def b__law_pairs : Sx := (sSeq (sSet 1 (eArgs mkLst asNil))
    (sSeq (sFor (.t [(.n 2), (.n 3)]) (iArgs enumS (asCons (eV 0) asNil)) (sSet 1 (e2 (lift2 addD) (eV 1) (eComp (.n 4) (iAnyS (eSlS (eV 0) (oSome (e2 (lift2 addD) (eV 2) (eK (.int 1)))) oNone)) yesT (eArgs mkTup (asCons (eV 3) (asCons (eV 4) asNil))) [4]))))
    (sRet (eV 1))))
def f__law_pairs : Fn := runF 5 b__law_pairs
theorem ok__law_pairs (B : Bn mg)  (F : L2.Fun K "_law_pairs" "_law_pairs" (topS 31) f fd) : FnOk P w K mg base (L2.CX P w) 1 f fd ["_law_tags"] (spF cm 1 f__law_pairs) :=
  gfn (k := 0) (N := n__law_pairs) (ps := ["_law_tags"]) (b := b__law_pairs) F sc__law_pairs fun cdv A outer s H E hr => (gss_cons (gs_set (i := 1) sc__law_pairs.nd rfl (by first | exact .inl rfl | exact .inr rfl) (g_lst ga_nil))
    (gss_cons (gs_for (passes_of rfl) rfl (gi_enumS B.enumerate (ga_cons (g_var 0) ga_nil)) (gg_tup rfl (ggs_cons (gg_name (i := 2) sc__law_pairs.nd rfl (by first | exact .inl rfl | exact .inr rfl)) (ggs_cons (gg_name (i := 3) sc__law_pairs.nd rfl (by first | exact .inl rfl | exact .inr rfl)) ggs_nil))) (gss_one (gs_set (i := 1) sc__law_pairs.nd rfl (by first | exact .inl rfl | exact .inr rfl) (g_op o_add (g_var 1) (g_comp (own := [("_law_own", 4)]) rfl sc__law_pairs.nd (gi_any (g_sliceS (g_var 0) (po_som (g_op o_add (g_var 2) g_int)) po_non)) (blkOk_by (own := [("_law_own", 4)]) (N := n__law_pairs) (sc := (defScope (topS 31))) (by decide +kernel)) (fun _ _ _ _ _ => (gg_name (i := 4) sc__law_pairs.nd rfl (by first | exact .inl rfl | exact .inr rfl))) (fun _ _ _ _ _ => gts_nil) (fun _ _ _ _ _ => (g_tup (ga_cons (g_var 3) (ga_cons (g_var 4) ga_nil)))))))))
    (gss_one (gs_ret (g_var 1)))))
/-! ## the law's fords -/
abbrev n__law_fords : List Str := ["_law_urn", "_law_tags", "_law_most_so", "_law_unit", "_law_pair_so"]
theorem sc__law_fords : FnScope n__law_fords ["_law_urn", "_law_tags", "_law_most_so"] (defScope (topS 32)) := ⟨rfl, rfl, rfl, by decide +kernel, rfl, by decide +kernel, by decide +kernel⟩
def b__law_fords : Sx := (sSeq (sSet 3 (eArgs (callF 2 f__law_of) (asCons (eV 0) (asCons (eArgs mkLst (asCons (eK (.int 1)) (asCons (eK (.int 1)) (asCons (eK (.int 1)) (asCons (eK (.int 7)) (asCons (e2 (lift2 powD) (eK (.int 10)) (eK (.int 39))) asNil)))))) asNil))))
    (sRet (eArgs (liftA fTuple) (asCons (eComp (.n 4) (iAnyS (eArgs (callF 1 f__law_pairs) (asCons (eV 1) asNil))) yesT (eArgs mkTup (asCons (eV 4) (asCons (e2 (lift2 addD) (e2 (lift2 mulD) (eV 3) (eArgs (callF 2 f__law_take) (asCons (eV 0) (asCons (e2 (lift2 addD) (eV 2) (eK (.int 1))) asNil)))) (e2 (lift2 mulD) (eArgs (liftA fInt) (asCons (e2 (lift2 gtF) (eV 3) (eK (.int 1))) asNil)) (e2 (lift2 divD) (eArgs (callF 2 f__law_take) (asCons (eV 0) (asCons (eK (.int 4)) asNil))) (eK (.int 3))))) asNil))) [4]) asNil))))
def f__law_fords : Fn := runF 5 b__law_fords
theorem ok__law_fords (B : Bn mg) (h__law_take : GF P w K mg base cm 1 "_law_take" ["_law_urn", "_law_low_so"] f__law_take) (h__law_of : GF P w K mg base cm 2 "_law_of" ["_law_urn", "_law_some_so"] f__law_of) (h__law_pairs : GF P w K mg base cm 1 "_law_pairs" ["_law_tags"] f__law_pairs) (F : L2.Fun K "_law_fords" "_law_fords" (topS 32) f fd) : FnOk P w K mg base (L2.CX P w) 3 f fd ["_law_urn", "_law_tags", "_law_most_so"] (spF cm 3 f__law_fords) :=
  gfn (k := 2) (N := n__law_fords) (ps := ["_law_urn", "_law_tags", "_law_most_so"]) (b := b__law_fords) F sc__law_fords fun cdv A outer s H E hr => (gss_cons (gs_set (i := 3) sc__law_fords.nd rfl (by first | exact .inl rfl | exact .inr rfl) (g_call h__law_of (takes_of rfl rfl rfl rfl) (hr.mono (by decide)) (ga_cons (g_var 0) (ga_cons (g_lst (ga_cons g_int (ga_cons g_int (ga_cons g_int (ga_cons g_int (ga_cons (g_op o_pow g_int g_int) ga_nil)))))) ga_nil))))
    (gss_one (gs_ret (g_callTy c_tuple B.tuple (ga_cons (g_comp (own := [("_law_pair_so", 4)]) rfl sc__law_fords.nd (gi_any (g_call h__law_pairs (takes_of rfl rfl rfl rfl) (hr.mono (by decide)) (ga_cons (g_var 1) ga_nil))) (blkOk_by (own := [("_law_pair_so", 4)]) (N := n__law_fords) (sc := (defScope (topS 32))) (by decide +kernel)) (fun _ _ _ _ _ => (gg_name (i := 4) sc__law_fords.nd rfl (by first | exact .inl rfl | exact .inr rfl))) (fun _ _ _ _ _ => gts_nil) (fun _ _ _ _ _ => (g_tup (ga_cons (g_var 4) (ga_cons (g_op o_add (g_op o_mul (g_var 3) (g_call h__law_take takes0 (hr.mono (by decide)) (ga_cons (g_var 0) (ga_cons (g_op o_add (g_var 2) g_int) ga_nil)))) (g_op o_mul (g_callTy c_int B.int (ga_cons (g_cmp o_gt (g_var 3) g_int (nomark _)) ga_nil)) (g_op o_div (g_call h__law_take takes0 (hr.mono (by decide)) (ga_cons (g_var 0) (ga_cons g_int ga_nil))) g_int))) ga_nil))))) ga_nil)))))
/-! ## the law's lot -/
abbrev n__law_lot : List Str := ["_law_fords_so", "_law_tags", "_law_water_so", "_law_first", "_law_found", "_law_turn", "_law_pair_so", "_law_much_so", "_law_one", "_law_own"]
theorem sc__law_lot : FnScope n__law_lot ["_law_fords_so", "_law_tags", "_law_water_so", "_law_first"] (defScope (topS 33)) := ⟨rfl, rfl, rfl, by decide +kernel, rfl, by decide +kernel, by decide +kernel⟩
def b__law_lot : Sx := (sSeq (sOwn 4 (asCons (eV 3) asNil))
    (sSeq (sFor (.n 5) (iArgs rng1 (asCons (eArgs (liftA fLen) (asCons (eV 1) asNil)) asNil)) (sFor (.t [(.n 6), (.n 7)]) (iAnyS (eV 0)) (sIf (eTest (e2 (lift2 gtF) (eV 7) (eV 2))) (sFor (.t [(.n 8), (.n 9)]) (iAnyS (eArgs mkTup (asCons (eV 6) (asCons (e1 (lift1 rev2F) (eV 6)) asNil)))) (sIf (eAndT (eTest (e2 (lift2 inF) (eV 8) (eV 4))) (eTest (e2 (lift2 ninF) (eV 9) (eV 4)))) (sApp 4 (eV 9)) sNil)) sNil)))
    (sRet (eArgs (liftA fTuple) (asCons (eArgs (liftA fSortedB) (asCons (eV 4) asNil)) asNil)))))
def f__law_lot : Fn := runF 10 b__law_lot
theorem ok__law_lot (B : Bn mg)  (F : L2.Fun K "_law_lot" "_law_lot" (topS 33) f fd) : FnOk P w K mg base (L2.CX P w) 1 f fd ["_law_fords_so", "_law_tags", "_law_water_so", "_law_first"] (spF cm 4 f__law_lot) :=
  gfn (k := 0) (N := n__law_lot) (ps := ["_law_fords_so", "_law_tags", "_law_water_so", "_law_first"]) (b := b__law_lot) F sc__law_lot fun cdv A outer s H E hr => (gss_cons (gs_own (i := 4) sc__law_lot.nd rfl (by first | exact .inl rfl | exact .inr rfl) (ga_cons (g_var 3) ga_nil))
    (gss_cons (gs_for (passes_of rfl) rfl (gi_range1 B.range (ga_cons (g_callB c_len B.len (ga_cons (g_var 1) ga_nil)) ga_nil)) (gg_name (i := 5) sc__law_lot.nd rfl (by first | exact .inl rfl | exact .inr rfl)) (gss_one (gs_for (passes_of rfl) rfl (gi_any (g_var 0)) (gg_tup rfl (ggs_cons (gg_name (i := 6) sc__law_lot.nd rfl (by first | exact .inl rfl | exact .inr rfl)) (ggs_cons (gg_name (i := 7) sc__law_lot.nd rfl (by first | exact .inl rfl | exact .inr rfl)) ggs_nil))) (gss_one (gs_if (gt_cmp o_gt (g_var 7) (g_var 2) (nomark _)) (gss_one (gs_for (passes_of rfl) rfl (gi_any (g_tup (ga_cons (g_var 6) (ga_cons (g_rev2 (g_var 6)) ga_nil)))) (gg_tup rfl (ggs_cons (gg_name (i := 8) sc__law_lot.nd rfl (by first | exact .inl rfl | exact .inr rfl)) (ggs_cons (gg_name (i := 9) sc__law_lot.nd rfl (by first | exact .inl rfl | exact .inr rfl)) ggs_nil))) (gss_one (gs_if (gw_pt (gw_and (gt_cmp (o_in hr) (g_var 8) (g_var 4) (by rfl)) (gw_and1 (gt_cmp (o_nin hr) (g_var 9) (g_var 4) (by rfl))))) (gss_one (gs_app (i := 4) rfl (by first | exact Or.inl rfl | exact Or.inr (Or.inl rfl) | exact Or.inr (Or.inr rfl)) (by decide) (by decide) (g_var 9))) gss_nil)))) gss_nil)))))
    (gss_one (gs_ret (g_callTy c_tuple B.tuple (ga_cons (g_callB (c_sortedB hr) B.sorted (ga_cons (g_var 4) ga_nil)) ga_nil))))))
/-! ## the law's met -/
abbrev n__law_met : List Str := ["_law_fords_so", "_law_tags", "_law_water_so", "_law_pair_so"]
theorem sc__law_met : FnScope n__law_met ["_law_fords_so", "_law_tags", "_law_water_so", "_law_pair_so"] (defScope (topS 34)) := ⟨rfl, rfl, rfl, by decide +kernel, rfl, by decide +kernel, by decide +kernel⟩
def b__law_met : Sx := (sRet (e2 (lift2 inF) (e2 (lift2 ixAll) (eV 3) (eK (.int 1))) (eArgs (callF 4 f__law_lot) (asCons (eV 0) (asCons (eV 1) (asCons (eV 2) (asCons (e2 (lift2 ixAll) (eV 3) (eK (.int 0))) asNil)))))))
def f__law_met : Fn := runF 4 b__law_met
theorem ok__law_met (B : Bn mg) (h__law_lot : GF P w K mg base cm 1 "_law_lot" ["_law_fords_so", "_law_tags", "_law_water_so", "_law_first"] f__law_lot) (F : L2.Fun K "_law_met" "_law_met" (topS 34) f fd) : FnOk P w K mg base (L2.CX P w) 2 f fd ["_law_fords_so", "_law_tags", "_law_water_so", "_law_pair_so"] (spF cm 4 f__law_met) :=
  gfn (k := 1) (N := n__law_met) (ps := ["_law_fords_so", "_law_tags", "_law_water_so", "_law_pair_so"]) (b := b__law_met) F sc__law_met fun cdv A outer s H E hr => (gss_one (gs_ret (g_cmp (o_in hr) (g_ix (i_all hr) (g_var 3) g_int) (g_call h__law_lot (takes_of rfl rfl rfl rfl) (hr.mono (by decide)) (ga_cons (g_var 0) (ga_cons (g_var 1) (ga_cons (g_var 2) (ga_cons (g_ix (i_all hr) (g_var 3) g_int) ga_nil))))) (by rfl))))
/-! ## the law's turns -/
abbrev n__law_turns : List Str := ["_law_fords_so", "_law_some", "_law_pair_so", "_law_much_so"]
theorem sc__law_turns : FnScope n__law_turns ["_law_fords_so"] (defScope (topS 35)) := ⟨rfl, rfl, rfl, by decide +kernel, rfl, by decide +kernel, by decide +kernel⟩
def b__law_turns : Sx := (sSeq (sSet 1 (eArgs mkLst (asCons (eK (.int 0)) asNil)))
    (sSeq (sFor (.t [(.n 2), (.n 3)]) (iAnyS (eV 0)) (sSet 1 (e2 (lift2 addD) (eV 1) (eArgs mkLst (asCons (eV 3) (asCons (e2 (lift2 addD) (eV 3) (eK (.int 1))) (asCons (eArgs (liftA fMax) (asCons (eK (.int 0)) (asCons (e2 (lift2 subD) (eV 3) (eK (.int 1))) asNil))) asNil)))))))
    (sRet (e1 (lift1 ssA) (eV 1)))))
def f__law_turns : Fn := runF 4 b__law_turns
theorem ok__law_turns (B : Bn mg)  (F : L2.Fun K "_law_turns" "_law_turns" (topS 35) f fd) : FnOk P w K mg base (L2.CX P w) 1 f fd ["_law_fords_so"] (spF cm 1 f__law_turns) :=
  gfn (k := 0) (N := n__law_turns) (ps := ["_law_fords_so"]) (b := b__law_turns) F sc__law_turns fun cdv A outer s H E hr => (gss_cons (gs_set (i := 1) sc__law_turns.nd rfl (by first | exact .inl rfl | exact .inr rfl) (g_lst (ga_cons g_int ga_nil)))
    (gss_cons (gs_for (passes_of rfl) rfl (gi_any (g_var 0)) (gg_tup rfl (ggs_cons (gg_name (i := 2) sc__law_turns.nd rfl (by first | exact .inl rfl | exact .inr rfl)) (ggs_cons (gg_name (i := 3) sc__law_turns.nd rfl (by first | exact .inl rfl | exact .inr rfl)) ggs_nil))) (gss_one (gs_set (i := 1) sc__law_turns.nd rfl (by first | exact .inl rfl | exact .inr rfl) (g_op o_add (g_var 1) (g_lst (ga_cons (g_var 3) (ga_cons (g_op o_add (g_var 3) g_int) (ga_cons (g_callB (c_max rfl) B.max (ga_cons g_int (ga_cons (g_op o_sub (g_var 3) g_int) ga_nil))) ga_nil))))))))
    (gss_one (gs_ret (g_ssA hr rfl B.sorted B.set (g_var 1))))))
/-! ## the law's due -/
abbrev n__law_due : List Str := ["_law_fords_so", "_law_tags", "_law_wants_so", "_law_own", "_law_water_so", "_law_far"]
theorem sc__law_due : FnScope n__law_due ["_law_fords_so", "_law_tags", "_law_wants_so", "_law_own"] (defScope (topS 36)) := ⟨rfl, rfl, rfl, by decide +kernel, rfl, by decide +kernel, by decide +kernel⟩
def b__law_due : Sx := (sSeq (sFor (.n 4) (iAnyS (eArgs (callF 1 f__law_turns) (asCons (eV 0) asNil))) (sIf (eAndT (eNotT (eTest (eArgs (callF 4 f__law_met) (asCons (eV 0) (asCons (eV 1) (asCons (eV 4) (asCons (eV 3) asNil))))))) (eTest (e2 (lift2 eqF) (eComp (.n 5) (iAnyS (eV 2)) (eNotT (eTest (eArgs (callF 4 f__law_met) (asCons (eV 0) (asCons (eV 1) (asCons (eV 4) (asCons (eV 5) asNil))))))) (eV 5) [5]) (eArgs mkLst asNil)))) (sRet (eV 4)) sNil))
    (sRet (eK .none)))
def f__law_due : Fn := runF 6 b__law_due
theorem ok__law_due (B : Bn mg) (h__law_met : GF P w K mg base cm 2 "_law_met" ["_law_fords_so", "_law_tags", "_law_water_so", "_law_pair_so"] f__law_met) (h__law_turns : GF P w K mg base cm 1 "_law_turns" ["_law_fords_so"] f__law_turns) (F : L2.Fun K "_law_due" "_law_due" (topS 36) f fd) : FnOk P w K mg base (L2.CX P w) 3 f fd ["_law_fords_so", "_law_tags", "_law_wants_so", "_law_own"] (spF cm 4 f__law_due) :=
  gfn (k := 2) (N := n__law_due) (ps := ["_law_fords_so", "_law_tags", "_law_wants_so", "_law_own"]) (b := b__law_due) F sc__law_due fun cdv A outer s H E hr => (gss_cons (gs_for (passes_of rfl) rfl (gi_any (g_call h__law_turns (takes_of rfl rfl rfl rfl) (hr.mono (by decide)) (ga_cons (g_var 0) ga_nil))) (gg_name (i := 4) sc__law_due.nd rfl (by first | exact .inl rfl | exact .inr rfl)) (gss_one (gs_if (gw_pt (gw_and (gt_not (gt_val (g_call h__law_met (takes_of rfl rfl rfl rfl) (hr.mono (by decide)) (ga_cons (g_var 0) (ga_cons (g_var 1) (ga_cons (g_var 4) (ga_cons (g_var 3) ga_nil))))))) (gw_and1 (gt_cmp (o_eq hr) (g_comp (own := [("_law_far", 5)]) rfl sc__law_due.nd (gi_any (g_var 2)) (blkOk_by (own := [("_law_far", 5)]) (N := n__law_due) (sc := (defScope (topS 36))) (by decide +kernel)) (fun _ _ _ _ _ => (gg_name (i := 5) sc__law_due.nd rfl (by first | exact .inl rfl | exact .inr rfl))) (fun _ _ _ _ _ => (gts_one (gt_not (gt_val (g_call h__law_met takes0 (hr.mono (by decide)) (ga_cons (g_var 0) (ga_cons (g_var 1) (ga_cons (g_var 4) (ga_cons (g_var 5) ga_nil))))))))) (fun _ _ _ _ _ => (g_var 5))) (g_lst ga_nil) (nomark _))))) (gss_one (gs_ret (g_var 4))) gss_nil)))
    (gss_one (gs_ret g_non)))
/-! ## the law's case_right -/
abbrev n__law_case_right : List Str := ["_law_urn", "_law_tags", "_law_fords_so", "_law_soft", "_law_every", "_law_turn", "_law_wants_so", "_law_own", "_law_due_here", "_law_mild", "_law_got"]
theorem sc__law_case_right : FnScope n__law_case_right ["_law_urn", "_law_tags", "_law_fords_so"] (defScope (topS 37)) := ⟨rfl, rfl, rfl, by decide +kernel, rfl, by decide +kernel, by decide +kernel⟩
def b__law_case_right : Sx := (sSeq (sPar 3 4 (eArgs (callF 1 (f__law_lists 8)) (asCons (eV 2) asNil)) (eArgs (callF 1 f__law_pairs) (asCons (eV 1) asNil)))
    (sSeq (sFor (.n 5) (iArgs rng1 (asCons (eK (.int 6)) asNil)) (sSeq (sPar 6 7 (eArgs (liftA fTuple) (asCons (eArgs (liftA fSortedB) (asCons (eArgs (callF 3 f__law_pick) (asCons (eV 0) (asCons (eV 4) (asCons (e2 (lift2 addD) (eK (.int 1)) (eArgs (callF 2 f__law_take) (asCons (eV 0) (asCons (eK (.int 3)) asNil)))) asNil)))) asNil)) asNil)) (eArgs (callF 2 f__law_of) (asCons (eV 0) (asCons (eV 4) asNil))))
    (sSeq (sPar 8 9 (eArgs (callF 4 f__law_due) (asCons (eV 2) (asCons (eV 1) (asCons (eV 6) (asCons (eV 7) asNil))))) (eArgs (callF 1 (f__law_lists 8)) (asCons (eV 6) asNil)))
    (sSeq (sSet 10 (eArgs mkLst (asCons (eArgs (callF 3 f_broken_at) (asCons (eV 2) (asCons (eV 6) (asCons (eV 7) asNil)))) (asCons (eArgs (callF 3 f_broken_at) (asCons (eV 3) (asCons (eV 9) (asCons (eArgs (liftA fList) (asCons (eV 7) asNil)) asNil)))) (asCons (eKw 3 0 3 [2, 1, 0] f_broken_at asNil (asCons (eArgs (liftA fList) (asCons (eV 7) asNil)) (asCons (eV 9) (asCons (eV 3) asNil)))) asNil)))))
    (sSeq (sSet 10 (e2 (lift2 addD) (eV 10) (eArgs mkLst (asCons (eArgs (callF 3 f_fords_keep) (asCons (eV 2) (asCons (eV 6) (asCons (eV 7) asNil)))) (asCons (eArgs (callF 3 f_fords_keep) (asCons (eV 3) (asCons (eV 9) (asCons (eArgs (liftA fList) (asCons (eV 7) asNil)) asNil)))) (asCons (eKw 3 0 3 [2, 1, 0] f_fords_keep asNil (asCons (eV 7) (asCons (eV 6) (asCons (eV 2) asNil)))) asNil))))))
    (sIf (eOrT (eNotT (eTest (eArgs (callF 2 (f__law_same 8)) (asCons (eV 10) (asCons (e2 (lift2 addD) (e2 (lift2 repL) (eArgs mkLst (asCons (eV 8) asNil)) (eK (.int 3))) (e2 (lift2 repL) (eArgs mkLst (asCons (e2 (lift2 isF) (eV 8) (eK .none)) asNil)) (eK (.int 3)))) asNil))))) (eTest (e2 (lift2 neF) (eV 9) (eArgs (callF 1 (f__law_lists 8)) (asCons (eV 6) asNil))))) (sRet (eK (.bool false))) sNil))))))
    (sRet (e2 (lift2 eqF) (eV 3) (eArgs (callF 1 (f__law_lists 8)) (asCons (eV 2) asNil))))))
def f__law_case_right : Fn := runF 11 b__law_case_right
theorem ok__law_case_right (B : Bn mg) (h_fords_keep : GF P w K mg base cm 11 "fords_keep" ["fords", "wants", "gives"] f_fords_keep) (h_broken_at : GF P w K mg base cm 11 "broken_at" ["fords", "wants", "gives"] f_broken_at) (h__law_take : GF P w K mg base cm 1 "_law_take" ["_law_urn", "_law_low_so"] f__law_take) (h__law_of : GF P w K mg base cm 2 "_law_of" ["_law_urn", "_law_some_so"] f__law_of) (h__law_same : GF P w K mg base cm 9 "_law_same" ["_law_got", "_law_goal"] (f__law_same 8)) (h__law_lists : GF P w K mg base cm 9 "_law_lists" ["_law_matter"] (f__law_lists 8)) (h__law_pick : GF P w K mg base cm 2 "_law_pick" ["_law_urn", "_law_pool", "_law_size_so"] f__law_pick) (h__law_pairs : GF P w K mg base cm 1 "_law_pairs" ["_law_tags"] f__law_pairs) (h__law_due : GF P w K mg base cm 3 "_law_due" ["_law_fords_so", "_law_tags", "_law_wants_so", "_law_own"] f__law_due) (hk_broken_at_0_gives_wants_fords : GFK P w K mg base cm 11 "broken_at" ["fords", "wants", "gives"] ["gives", "wants", "fords"] 0 [2, 1, 0] f_broken_at) (hk_fords_keep_0_gives_wants_fords : GFK P w K mg base cm 11 "fords_keep" ["fords", "wants", "gives"] ["gives", "wants", "fords"] 0 [2, 1, 0] f_fords_keep) (F : L2.Fun K "_law_case_right" "_law_case_right" (topS 37) f fd) : FnOk P w K mg base (L2.CX P w) 12 f fd ["_law_urn", "_law_tags", "_law_fords_so"] (spF cm 3 f__law_case_right) :=
  gfn (k := 11) (N := n__law_case_right) (ps := ["_law_urn", "_law_tags", "_law_fords_so"]) (b := b__law_case_right) F sc__law_case_right fun cdv A outer s H E hr => (gss_cons (gs_par (i := 3) (j := 4) rfl sc__law_case_right.nd rfl rfl (by decide) rfl rfl (g_call h__law_lists (takes_of rfl rfl rfl rfl) (hr.mono (by decide)) (ga_cons (g_var 2) ga_nil)) (g_call h__law_pairs (takes_of rfl rfl rfl rfl) (hr.mono (by decide)) (ga_cons (g_var 1) ga_nil)) rfl rfl rfl)
    (gss_cons (gs_for (passes_of rfl) rfl (gi_range1 B.range (ga_cons g_int ga_nil)) (gg_name (i := 5) sc__law_case_right.nd rfl (by first | exact .inl rfl | exact .inr rfl)) (gss_cons (gs_par (i := 6) (j := 7) rfl sc__law_case_right.nd rfl rfl (by decide) rfl rfl (g_callTy c_tuple B.tuple (ga_cons (g_callB (c_sortedB hr) B.sorted (ga_cons (g_call h__law_pick (takes_of rfl rfl rfl rfl) (hr.mono (by decide)) (ga_cons (g_var 0) (ga_cons (g_var 4) (ga_cons (g_op o_add g_int (g_call h__law_take (takes_of rfl rfl rfl rfl) (hr.mono (by decide)) (ga_cons (g_var 0) (ga_cons g_int ga_nil)))) ga_nil)))) ga_nil)) ga_nil)) (g_call h__law_of (takes_of rfl rfl rfl rfl) (hr.mono (by decide)) (ga_cons (g_var 0) (ga_cons (g_var 4) ga_nil))) rfl rfl rfl)
    (gss_cons (gs_par (i := 8) (j := 9) rfl sc__law_case_right.nd rfl rfl (by decide) rfl rfl (g_call h__law_due (takes_of rfl rfl rfl rfl) (hr.mono (by decide)) (ga_cons (g_var 2) (ga_cons (g_var 1) (ga_cons (g_var 6) (ga_cons (g_var 7) ga_nil))))) (g_call h__law_lists (takes_of rfl rfl rfl rfl) (hr.mono (by decide)) (ga_cons (g_var 6) ga_nil)) rfl rfl rfl)
    (gss_cons (gs_set (i := 10) sc__law_case_right.nd rfl (by first | exact .inl rfl | exact .inr rfl) (g_lst (ga_cons (g_call h_broken_at (takes_of rfl rfl rfl rfl) (hr.mono (by decide)) (ga_cons (g_var 2) (ga_cons (g_var 6) (ga_cons (g_var 7) ga_nil)))) (ga_cons (g_call h_broken_at (takes_of rfl rfl rfl rfl) (hr.mono (by decide)) (ga_cons (g_var 3) (ga_cons (g_var 9) (ga_cons (g_callTy c_list B.list (ga_cons (g_var 7) ga_nil)) ga_nil)))) (ga_cons (g_callK0 hk_broken_at_0_gives_wants_fords (takes_of rfl rfl rfl rfl) (hr.mono (by decide)) (gk_cons (g_callTy c_list B.list (ga_cons (g_var 7) ga_nil)) (gk_cons (g_var 9) (gk_cons (g_var 3) gk_nil)))) ga_nil)))))
    (gss_cons (gs_set (i := 10) sc__law_case_right.nd rfl (by first | exact .inl rfl | exact .inr rfl) (g_op o_add (g_var 10) (g_lst (ga_cons (g_call h_fords_keep (takes_of rfl rfl rfl rfl) (hr.mono (by decide)) (ga_cons (g_var 2) (ga_cons (g_var 6) (ga_cons (g_var 7) ga_nil)))) (ga_cons (g_call h_fords_keep (takes_of rfl rfl rfl rfl) (hr.mono (by decide)) (ga_cons (g_var 3) (ga_cons (g_var 9) (ga_cons (g_callTy c_list B.list (ga_cons (g_var 7) ga_nil)) ga_nil)))) (ga_cons (g_callK0 hk_fords_keep_0_gives_wants_fords (takes_of rfl rfl rfl rfl) (hr.mono (by decide)) (gk_cons (g_var 7) (gk_cons (g_var 6) (gk_cons (g_var 2) gk_nil)))) ga_nil))))))
    (gss_one (gs_if (gw_pt (gw_or (gt_not (gt_val (g_call h__law_same (takes_of rfl rfl rfl rfl) (hr.mono (by decide)) (ga_cons (g_var 10) (ga_cons (g_op o_add (g_op o_rep (g_lst (ga_cons (g_var 8) ga_nil)) g_int) (g_op o_rep (g_lst (ga_cons (g_cmp o_is (g_var 8) g_non (nomark _)) ga_nil)) g_int)) ga_nil))))) (gw_or1 (gt_cmp (o_ne hr) (g_var 9) (g_call h__law_lists (takes_of rfl rfl rfl rfl) (hr.mono (by decide)) (ga_cons (g_var 6) ga_nil)) (nomark _))))) (gss_one (gs_ret g_bl)) gss_nil)))))))
    (gss_one (gs_ret (g_cmp (o_eq hr) (g_var 3) (g_call h__law_lists (takes_of rfl rfl rfl rfl) (hr.mono (by decide)) (ga_cons (g_var 2) ga_nil)) (nomark _))))))
/-! ## the law's by_hand_right -/
abbrev n__law_by_hand_right : List Str := ["_law_plain", "_law_ab", "_law_ac", "_law_ad", "_law_bc", "_law_bd", "_law_cd", "_law_some", "_law_got", "_law_own", "_law_far", "_law_due_here", "_law_none", "_law_wide", "_law_steps_so", "_law_much_so"]
theorem sc__law_by_hand_right : FnScope n__law_by_hand_right [] (defScope (topS 38)) := ⟨rfl, rfl, rfl, by decide +kernel, rfl, by decide +kernel, by decide +kernel⟩
def b__law_by_hand_right : Sx := (sSeq (sSet 0 (eArgs mkTup (asCons (eArgs mkTup (asCons (eArgs mkTup (asCons (eK (.str "a")) (asCons (eK (.str "b")) asNil))) (asCons (eK (.int 5)) asNil))) (asCons (eArgs mkTup (asCons (eArgs mkTup (asCons (eK (.str "a")) (asCons (eK (.str "c")) asNil))) (asCons (eK (.int 2)) asNil))) (asCons (eArgs mkTup (asCons (eArgs mkTup (asCons (eK (.str "a")) (asCons (eK (.str "d")) asNil))) (asCons (eK (.int 1)) asNil))) (asCons (eArgs mkTup (asCons (eArgs mkTup (asCons (eK (.str "b")) (asCons (eK (.str "c")) asNil))) (asCons (eK (.int 4)) asNil))) (asCons (eArgs mkTup (asCons (eArgs mkTup (asCons (eK (.str "b")) (asCons (eK (.str "d")) asNil))) (asCons (eK (.int 3)) asNil))) (asCons (eArgs mkTup (asCons (eArgs mkTup (asCons (eK (.str "c")) (asCons (eK (.str "d")) asNil))) (asCons (eK (.int 3)) asNil))) asNil))))))))
    (sSeq (sAsg (.t [(.n 1), (.n 2), (.n 3), (.n 4), (.n 5), (.n 6)]) (eArgs (callF 1 f__law_pairs) (asCons (eK (.str "abcd")) asNil)))
    (sSeq (sSet 7 (eArgs mkLst (asCons (eArgs mkTup (asCons (eArgs mkTup (asCons (eV 4) asNil)) (asCons (eV 2) asNil))) (asCons (eArgs mkTup (asCons (eArgs mkTup (asCons (eV 2) asNil)) (asCons (eV 4) asNil))) (asCons (eArgs mkTup (asCons (eArgs mkTup (asCons (eV 1) asNil)) (asCons (eV 4) asNil))) (asCons (eArgs mkTup (asCons (eArgs mkTup (asCons (eV 1) (asCons (eV 6) asNil))) (asCons (eV 3) asNil))) (asCons (eArgs mkTup (asCons (eArgs mkTup (asCons (eV 1) (asCons (eV 4) asNil))) (asCons (eV 6) asNil))) (asCons (eArgs mkTup (asCons (eArgs mkTup (asCons (eV 6) asNil)) (asCons (eV 1) asNil))) (asCons (eArgs mkTup (asCons (eArgs mkTup (asCons (eV 1) (asCons (eV 2) (asCons (eV 3) (asCons (eV 4) (asCons (eV 5) (asCons (eV 6) asNil))))))) (asCons (eV 1) asNil))) (asCons (eArgs mkTup (asCons (eArgs mkTup (asCons (eV 1) asNil)) (asCons (eV 3) asNil))) (asCons (eArgs mkTup (asCons (eArgs mkTup (asCons (eV 1) asNil)) (asCons (eV 1) asNil))) asNil)))))))))))
    (sSeq (sSet 8 (e2 (lift2 addD) (eComp (.t [(.n 9), (.n 10)]) (iAnyS (eV 7)) yesT (eArgs (callF 3 f_broken_at) (asCons (eV 0) (asCons (eV 9) (asCons (eV 10) asNil)))) [9, 10]) (eComp (.t [(.n 9), (.n 10)]) (iAnyS (eV 7)) yesT (eArgs (callF 3 f_fords_keep) (asCons (eV 0) (asCons (eV 9) (asCons (eV 10) asNil)))) [9, 10])))
    (sSeq (sSet 11 (eArgs mkLst (asCons (eK .none) (asCons (eK .none) (asCons (eK (.int 4)) (asCons (eK .none) (asCons (eK (.int 3)) (asCons (eK .none) (asCons (eK .none) (asCons (eK (.int 3)) (asCons (eK .none) (asCons (eK (.bool true)) (asCons (eK (.bool true)) (asCons (eK (.bool false)) (asCons (eK (.bool true)) (asCons (eK (.bool false)) (asCons (eK (.bool true)) (asCons (eK (.bool true)) (asCons (eK (.bool false)) (asCons (eK (.bool true)) asNil))))))))))))))))))))
    (sSeq (sSet 12 (eArgs (liftA fTuple) (asCons (eComp (.n 9) (iAnyS (eArgs (callF 1 f__law_pairs) (asCons (eK (.str "abc")) asNil))) yesT (eArgs mkTup (asCons (eV 9) (asCons (eK (.int 0)) asNil))) [9]) asNil)))
    (sSeq (sSet 8 (e2 (lift2 addD) (eV 8) (eArgs mkLst (asCons (eArgs (callF 3 f_broken_at) (asCons (eV 12) (asCons (eArgs mkTup (asCons (eArgs mkTup (asCons (eK (.str "a")) (asCons (eK (.str "b")) asNil))) asNil)) (asCons (eArgs mkTup (asCons (eK (.str "a")) (asCons (eK (.str "c")) asNil))) asNil)))) (asCons (eArgs (callF 3 f_broken_at) (asCons (eArgs mkTup (asCons (eArgs mkTup (asCons (eArgs mkTup (asCons (eK (.str "a")) (asCons (eK (.str "b")) asNil))) (asCons (eK (.int 0)) asNil))) (asCons (eArgs mkTup (asCons (eArgs mkTup (asCons (eK (.str "a")) (asCons (eK (.str "c")) asNil))) (asCons (e2 (lift2 powD) (eK (.int 10)) (eK (.int 40))) asNil))) (asCons (eArgs mkTup (asCons (eArgs mkTup (asCons (eK (.str "b")) (asCons (eK (.str "c")) asNil))) (asCons (eK (.int 0)) asNil))) asNil)))) (asCons (eArgs mkTup (asCons (eArgs mkTup (asCons (eK (.str "a")) (asCons (eK (.str "c")) asNil))) asNil)) (asCons (eArgs mkTup (asCons (eK (.str "a")) (asCons (eK (.str "b")) asNil))) asNil)))) asNil)))))
    (sSeq (sSet 11 (e2 (lift2 addD) (eV 11) (eArgs mkLst (asCons (eK .none) (asCons (eK (.int 0)) asNil)))))
    (sSeq (sSet 13 (eArgs (liftA fTuple) (asCons (eComp (.n 9) (iAnyS (eArgs (callF 1 f__law_pairs) (asCons (eK (.str "abcdefghijkl")) asNil))) yesT (eArgs mkTup (asCons (eV 9) (asCons (eIf (eTest (e2 (lift2 eqF) (e2 (lift2 subD) (eArgs (liftA fOrd) (asCons (e2 (lift2 ixAll) (eV 9) (eK (.int 1))) asNil)) (eArgs (liftA fOrd) (asCons (e2 (lift2 ixAll) (eV 9) (eK (.int 0))) asNil))) (eK (.int 1)))) (e2 (lift2 subD) (e2 (lift2 powD) (eK (.int 10)) (eK (.int 40))) (eArgs (liftA fOrd) (asCons (e2 (lift2 ixAll) (eV 9) (eK (.int 0))) asNil))) (eK (.int 0))) asNil))) [9]) asNil)))
    (sSeq (sSet 14 (eArgs (liftA fTuple) (asCons (eComp (.t [(.n 9), (.n 15)]) (iAnyS (eV 13)) (eTest (e2 (lift2 gtF) (eV 15) (eK (.int 0)))) (eV 9) [9, 15]) asNil)))
    (sSeq (sSet 8 (e2 (lift2 addD) (eV 8) (eArgs mkLst (asCons (eArgs (callF 3 f_broken_at) (asCons (eV 13) (asCons (eV 14) (asCons (eArgs mkTup (asCons (eK (.str "a")) (asCons (eK (.str "l")) asNil))) asNil)))) (asCons (eArgs (callF 3 f_broken_at) (asCons (eV 13) (asCons (eSlS (eV 14) oNone (oSome (eK (.int 10)))) (asCons (eArgs mkTup (asCons (eK (.str "a")) (asCons (eK (.str "l")) asNil))) asNil)))) (asCons (eArgs (callF 3 f_broken_at) (asCons (eV 13) (asCons (eArgs mkTup (asCons (eArgs mkTup (asCons (eK (.str "a")) (asCons (eK (.str "b")) asNil))) asNil)) (asCons (eArgs mkTup (asCons (eK (.str "a")) (asCons (eK (.str "c")) asNil))) asNil)))) (asCons (eArgs (callF 3 f_fords_keep) (asCons (eV 13) (asCons (eV 14) (asCons (eArgs mkTup (asCons (eK (.str "c")) (asCons (eK (.str "k")) asNil))) asNil)))) asNil)))))))
    (sRet (eArgs (callF 2 (f__law_same 8)) (asCons (eV 8) (asCons (e2 (lift2 addD) (eV 11) (eArgs mkLst (asCons (eK .none) (asCons (e2 (lift2 subD) (e2 (lift2 powD) (eK (.int 10)) (eK (.int 40))) (eK (.int 107))) (asCons (e2 (lift2 subD) (e2 (lift2 powD) (eK (.int 10)) (eK (.int 40))) (eK (.int 98))) (asCons (eK (.bool true)) asNil)))))) asNil)))))))))))))))
def f__law_by_hand_right : Fn := runF 16 b__law_by_hand_right
theorem ok__law_by_hand_right (B : Bn mg) (h_fords_keep : GF P w K mg base cm 11 "fords_keep" ["fords", "wants", "gives"] f_fords_keep) (h_broken_at : GF P w K mg base cm 11 "broken_at" ["fords", "wants", "gives"] f_broken_at) (h__law_same : GF P w K mg base cm 9 "_law_same" ["_law_got", "_law_goal"] (f__law_same 8)) (h__law_pairs : GF P w K mg base cm 1 "_law_pairs" ["_law_tags"] f__law_pairs) (F : L2.Fun K "_law_by_hand_right" "_law_by_hand_right" (topS 38) f fd) : FnOk P w K mg base (L2.CX P w) 12 f fd [] (spF cm 0 f__law_by_hand_right) :=
  gfn (k := 11) (N := n__law_by_hand_right) (ps := []) (b := b__law_by_hand_right) F sc__law_by_hand_right fun cdv A outer s H E hr => (gss_cons (gs_set (i := 0) sc__law_by_hand_right.nd rfl (by first | exact .inl rfl | exact .inr rfl) (g_tup (ga_cons (g_tup (ga_cons (g_tup (ga_cons g_str (ga_cons g_str ga_nil))) (ga_cons g_int ga_nil))) (ga_cons (g_tup (ga_cons (g_tup (ga_cons g_str (ga_cons g_str ga_nil))) (ga_cons g_int ga_nil))) (ga_cons (g_tup (ga_cons (g_tup (ga_cons g_str (ga_cons g_str ga_nil))) (ga_cons g_int ga_nil))) (ga_cons (g_tup (ga_cons (g_tup (ga_cons g_str (ga_cons g_str ga_nil))) (ga_cons g_int ga_nil))) (ga_cons (g_tup (ga_cons (g_tup (ga_cons g_str (ga_cons g_str ga_nil))) (ga_cons g_int ga_nil))) (ga_cons (g_tup (ga_cons (g_tup (ga_cons g_str (ga_cons g_str ga_nil))) (ga_cons g_int ga_nil))) ga_nil))))))))
    (gss_cons (gs_asg (g_call h__law_pairs (takes_of rfl rfl rfl rfl) (hr.mono (by decide)) (ga_cons g_str ga_nil)) (gg_tup rfl (ggs_cons (gg_name (i := 1) sc__law_by_hand_right.nd rfl (by first | exact .inl rfl | exact .inr rfl)) (ggs_cons (gg_name (i := 2) sc__law_by_hand_right.nd rfl (by first | exact .inl rfl | exact .inr rfl)) (ggs_cons (gg_name (i := 3) sc__law_by_hand_right.nd rfl (by first | exact .inl rfl | exact .inr rfl)) (ggs_cons (gg_name (i := 4) sc__law_by_hand_right.nd rfl (by first | exact .inl rfl | exact .inr rfl)) (ggs_cons (gg_name (i := 5) sc__law_by_hand_right.nd rfl (by first | exact .inl rfl | exact .inr rfl)) (ggs_cons (gg_name (i := 6) sc__law_by_hand_right.nd rfl (by first | exact .inl rfl | exact .inr rfl)) ggs_nil))))))))
    (gss_cons (gs_set (i := 7) sc__law_by_hand_right.nd rfl (by first | exact .inl rfl | exact .inr rfl) (g_lst (ga_cons (g_tup (ga_cons (g_tup (ga_cons (g_var 4) ga_nil)) (ga_cons (g_var 2) ga_nil))) (ga_cons (g_tup (ga_cons (g_tup (ga_cons (g_var 2) ga_nil)) (ga_cons (g_var 4) ga_nil))) (ga_cons (g_tup (ga_cons (g_tup (ga_cons (g_var 1) ga_nil)) (ga_cons (g_var 4) ga_nil))) (ga_cons (g_tup (ga_cons (g_tup (ga_cons (g_var 1) (ga_cons (g_var 6) ga_nil))) (ga_cons (g_var 3) ga_nil))) (ga_cons (g_tup (ga_cons (g_tup (ga_cons (g_var 1) (ga_cons (g_var 4) ga_nil))) (ga_cons (g_var 6) ga_nil))) (ga_cons (g_tup (ga_cons (g_tup (ga_cons (g_var 6) ga_nil)) (ga_cons (g_var 1) ga_nil))) (ga_cons (g_tup (ga_cons (g_tup (ga_cons (g_var 1) (ga_cons (g_var 2) (ga_cons (g_var 3) (ga_cons (g_var 4) (ga_cons (g_var 5) (ga_cons (g_var 6) ga_nil))))))) (ga_cons (g_var 1) ga_nil))) (ga_cons (g_tup (ga_cons (g_tup (ga_cons (g_var 1) ga_nil)) (ga_cons (g_var 3) ga_nil))) (ga_cons (g_tup (ga_cons (g_tup (ga_cons (g_var 1) ga_nil)) (ga_cons (g_var 1) ga_nil))) ga_nil)))))))))))
    (gss_cons (gs_set (i := 8) sc__law_by_hand_right.nd rfl (by first | exact .inl rfl | exact .inr rfl) (g_op o_add (g_comp (own := [("_law_own", 9), ("_law_far", 10)]) rfl sc__law_by_hand_right.nd (gi_any (g_var 7)) (blkOk_by (own := [("_law_own", 9), ("_law_far", 10)]) (N := n__law_by_hand_right) (sc := (defScope (topS 38))) (by decide +kernel)) (fun _ _ _ _ _ => (gg_tup rfl (ggs_cons (gg_name (i := 9) sc__law_by_hand_right.nd rfl (by first | exact .inl rfl | exact .inr rfl)) (ggs_cons (gg_name (i := 10) sc__law_by_hand_right.nd rfl (by first | exact .inl rfl | exact .inr rfl)) ggs_nil)))) (fun _ _ _ _ _ => gts_nil) (fun _ _ _ _ _ => (g_call h_broken_at takes0 (hr.mono (by decide)) (ga_cons (g_var 0) (ga_cons (g_var 9) (ga_cons (g_var 10) ga_nil)))))) (g_comp (own := [("_law_own", 9), ("_law_far", 10)]) rfl sc__law_by_hand_right.nd (gi_any (g_var 7)) (blkOk_by (own := [("_law_own", 9), ("_law_far", 10)]) (N := n__law_by_hand_right) (sc := (defScope (topS 38))) (by decide +kernel)) (fun _ _ _ _ _ => (gg_tup rfl (ggs_cons (gg_name (i := 9) sc__law_by_hand_right.nd rfl (by first | exact .inl rfl | exact .inr rfl)) (ggs_cons (gg_name (i := 10) sc__law_by_hand_right.nd rfl (by first | exact .inl rfl | exact .inr rfl)) ggs_nil)))) (fun _ _ _ _ _ => gts_nil) (fun _ _ _ _ _ => (g_call h_fords_keep takes0 (hr.mono (by decide)) (ga_cons (g_var 0) (ga_cons (g_var 9) (ga_cons (g_var 10) ga_nil))))))))
    (gss_cons (gs_set (i := 11) sc__law_by_hand_right.nd rfl (by first | exact .inl rfl | exact .inr rfl) (g_lst (ga_cons g_non (ga_cons g_non (ga_cons g_int (ga_cons g_non (ga_cons g_int (ga_cons g_non (ga_cons g_non (ga_cons g_int (ga_cons g_non (ga_cons g_bl (ga_cons g_bl (ga_cons g_bl (ga_cons g_bl (ga_cons g_bl (ga_cons g_bl (ga_cons g_bl (ga_cons g_bl (ga_cons g_bl ga_nil))))))))))))))))))))
    (gss_cons (gs_set (i := 12) sc__law_by_hand_right.nd rfl (by first | exact .inl rfl | exact .inr rfl) (g_callTy c_tuple B.tuple (ga_cons (g_comp (own := [("_law_own", 9)]) rfl sc__law_by_hand_right.nd (gi_any (g_call h__law_pairs (takes_of rfl rfl rfl rfl) (hr.mono (by decide)) (ga_cons g_str ga_nil))) (blkOk_by (own := [("_law_own", 9)]) (N := n__law_by_hand_right) (sc := (defScope (topS 38))) (by decide +kernel)) (fun _ _ _ _ _ => (gg_name (i := 9) sc__law_by_hand_right.nd rfl (by first | exact .inl rfl | exact .inr rfl))) (fun _ _ _ _ _ => gts_nil) (fun _ _ _ _ _ => (g_tup (ga_cons (g_var 9) (ga_cons g_int ga_nil))))) ga_nil)))
    (gss_cons (gs_set (i := 8) sc__law_by_hand_right.nd rfl (by first | exact .inl rfl | exact .inr rfl) (g_op o_add (g_var 8) (g_lst (ga_cons (g_call h_broken_at (takes_of rfl rfl rfl rfl) (hr.mono (by decide)) (ga_cons (g_var 12) (ga_cons (g_tup (ga_cons (g_tup (ga_cons g_str (ga_cons g_str ga_nil))) ga_nil)) (ga_cons (g_tup (ga_cons g_str (ga_cons g_str ga_nil))) ga_nil)))) (ga_cons (g_call h_broken_at (takes_of rfl rfl rfl rfl) (hr.mono (by decide)) (ga_cons (g_tup (ga_cons (g_tup (ga_cons (g_tup (ga_cons g_str (ga_cons g_str ga_nil))) (ga_cons g_int ga_nil))) (ga_cons (g_tup (ga_cons (g_tup (ga_cons g_str (ga_cons g_str ga_nil))) (ga_cons (g_op o_pow g_int g_int) ga_nil))) (ga_cons (g_tup (ga_cons (g_tup (ga_cons g_str (ga_cons g_str ga_nil))) (ga_cons g_int ga_nil))) ga_nil)))) (ga_cons (g_tup (ga_cons (g_tup (ga_cons g_str (ga_cons g_str ga_nil))) ga_nil)) (ga_cons (g_tup (ga_cons g_str (ga_cons g_str ga_nil))) ga_nil)))) ga_nil)))))
    (gss_cons (gs_set (i := 11) sc__law_by_hand_right.nd rfl (by first | exact .inl rfl | exact .inr rfl) (g_op o_add (g_var 11) (g_lst (ga_cons g_non (ga_cons g_int ga_nil)))))
    (gss_cons (gs_set (i := 13) sc__law_by_hand_right.nd rfl (by first | exact .inl rfl | exact .inr rfl) (g_callTy c_tuple B.tuple (ga_cons (g_comp (own := [("_law_own", 9)]) rfl sc__law_by_hand_right.nd (gi_any (g_call h__law_pairs (takes_of rfl rfl rfl rfl) (hr.mono (by decide)) (ga_cons g_str ga_nil))) (blkOk_by (own := [("_law_own", 9)]) (N := n__law_by_hand_right) (sc := (defScope (topS 38))) (by decide +kernel)) (fun _ _ _ _ _ => (gg_name (i := 9) sc__law_by_hand_right.nd rfl (by first | exact .inl rfl | exact .inr rfl))) (fun _ _ _ _ _ => gts_nil) (fun _ _ _ _ _ => (g_tup (ga_cons (g_var 9) (ga_cons (g_if (gt_cmp (o_eq hr) (g_op o_sub (g_callB c_ord B.ord (ga_cons (g_ix (i_all hr) (g_var 9) g_int) ga_nil)) (g_callB c_ord B.ord (ga_cons (g_ix (i_all hr) (g_var 9) g_int) ga_nil))) g_int (nomark _)) (g_op o_sub (g_op o_pow g_int g_int) (g_callB c_ord B.ord (ga_cons (g_ix (i_all hr) (g_var 9) g_int) ga_nil))) g_int) ga_nil))))) ga_nil)))
    (gss_cons (gs_set (i := 14) sc__law_by_hand_right.nd rfl (by first | exact .inl rfl | exact .inr rfl) (g_callTy c_tuple B.tuple (ga_cons (g_comp (own := [("_law_own", 9), ("_law_much_so", 15)]) rfl sc__law_by_hand_right.nd (gi_any (g_var 13)) (blkOk_by (own := [("_law_own", 9), ("_law_much_so", 15)]) (N := n__law_by_hand_right) (sc := (defScope (topS 38))) (by decide +kernel)) (fun _ _ _ _ _ => (gg_tup rfl (ggs_cons (gg_name (i := 9) sc__law_by_hand_right.nd rfl (by first | exact .inl rfl | exact .inr rfl)) (ggs_cons (gg_name (i := 15) sc__law_by_hand_right.nd rfl (by first | exact .inl rfl | exact .inr rfl)) ggs_nil)))) (fun _ _ _ _ _ => (gts_one (gt_cmp o_gt (g_var 15) g_int (nomark _)))) (fun _ _ _ _ _ => (g_var 9))) ga_nil)))
    (gss_cons (gs_set (i := 8) sc__law_by_hand_right.nd rfl (by first | exact .inl rfl | exact .inr rfl) (g_op o_add (g_var 8) (g_lst (ga_cons (g_call h_broken_at (takes_of rfl rfl rfl rfl) (hr.mono (by decide)) (ga_cons (g_var 13) (ga_cons (g_var 14) (ga_cons (g_tup (ga_cons g_str (ga_cons g_str ga_nil))) ga_nil)))) (ga_cons (g_call h_broken_at (takes_of rfl rfl rfl rfl) (hr.mono (by decide)) (ga_cons (g_var 13) (ga_cons (g_sliceS (g_var 14) po_non (po_som g_int)) (ga_cons (g_tup (ga_cons g_str (ga_cons g_str ga_nil))) ga_nil)))) (ga_cons (g_call h_broken_at (takes_of rfl rfl rfl rfl) (hr.mono (by decide)) (ga_cons (g_var 13) (ga_cons (g_tup (ga_cons (g_tup (ga_cons g_str (ga_cons g_str ga_nil))) ga_nil)) (ga_cons (g_tup (ga_cons g_str (ga_cons g_str ga_nil))) ga_nil)))) (ga_cons (g_call h_fords_keep (takes_of rfl rfl rfl rfl) (hr.mono (by decide)) (ga_cons (g_var 13) (ga_cons (g_var 14) (ga_cons (g_tup (ga_cons g_str (ga_cons g_str ga_nil))) ga_nil)))) ga_nil)))))))
    (gss_one (gs_ret (g_call h__law_same (takes_of rfl rfl rfl rfl) (hr.mono (by decide)) (ga_cons (g_var 8) (ga_cons (g_op o_add (g_var 11) (g_lst (ga_cons g_non (ga_cons (g_op o_sub (g_op o_pow g_int g_int) g_int) (ga_cons (g_op o_sub (g_op o_pow g_int g_int) g_int) (ga_cons g_bl ga_nil)))))) ga_nil))))))))))))))))
/-! ## the law's right -/
abbrev n__law_right : List Str := ["_law_urn", "_law_turn", "_law_tags"]
theorem sc__law_right : FnScope n__law_right ["_law_urn"] (defScope (topS 39)) := ⟨rfl, rfl, rfl, by decide +kernel, rfl, by decide +kernel, by decide +kernel⟩
def b__law_right : Sx := (sSeq (sFor (.n 1) (iArgs rng1 (asCons (eK (.int 6)) asNil)) (sSeq (sSet 2 (eArgs (callF 2 f__law_isles) (asCons (eV 0) (asCons (e2 (lift2 addD) (eK (.int 3)) (eArgs (callF 2 f__law_take) (asCons (eV 0) (asCons (eK (.int 3)) asNil)))) asNil))))
    (sIf (eNotT (eTest (eArgs (callF 3 f__law_case_right) (asCons (eV 0) (asCons (eV 2) (asCons (eArgs (callF 3 f__law_fords) (asCons (eV 0) (asCons (eV 2) (asCons (eK (.int 4)) asNil)))) asNil)))))) (sRet (eK (.bool false))) sNil)))
    (sRet (eK (.bool true))))
def f__law_right : Fn := runF 3 b__law_right
theorem ok__law_right (B : Bn mg) (h__law_take : GF P w K mg base cm 1 "_law_take" ["_law_urn", "_law_low_so"] f__law_take) (h__law_isles : GF P w K mg base cm 3 "_law_isles" ["_law_urn", "_law_size_so"] f__law_isles) (h__law_fords : GF P w K mg base cm 3 "_law_fords" ["_law_urn", "_law_tags", "_law_most_so"] f__law_fords) (h__law_case_right : GF P w K mg base cm 12 "_law_case_right" ["_law_urn", "_law_tags", "_law_fords_so"] f__law_case_right) (F : L2.Fun K "_law_right" "_law_right" (topS 39) f fd) : FnOk P w K mg base (L2.CX P w) 13 f fd ["_law_urn"] (spF cm 1 f__law_right) :=
  gfn (k := 12) (N := n__law_right) (ps := ["_law_urn"]) (b := b__law_right) F sc__law_right fun cdv A outer s H E hr => (gss_cons (gs_for (passes_of rfl) rfl (gi_range1 B.range (ga_cons g_int ga_nil)) (gg_name (i := 1) sc__law_right.nd rfl (by first | exact .inl rfl | exact .inr rfl)) (gss_cons (gs_set (i := 2) sc__law_right.nd rfl (by first | exact .inl rfl | exact .inr rfl) (g_call h__law_isles (takes_of rfl rfl rfl rfl) (hr.mono (by decide)) (ga_cons (g_var 0) (ga_cons (g_op o_add g_int (g_call h__law_take (takes_of rfl rfl rfl rfl) (hr.mono (by decide)) (ga_cons (g_var 0) (ga_cons g_int ga_nil)))) ga_nil))))
    (gss_one (gs_if (gt_not (gt_val (g_call h__law_case_right (takes_of rfl rfl rfl rfl) (hr.mono (by decide)) (ga_cons (g_var 0) (ga_cons (g_var 2) (ga_cons (g_call h__law_fords (takes_of rfl rfl rfl rfl) (hr.mono (by decide)) (ga_cons (g_var 0) (ga_cons (g_var 2) (ga_cons g_int ga_nil)))) ga_nil)))))) (gss_one (gs_ret g_bl)) gss_nil))))
    (gss_one (gs_ret g_bl)))
end
end Sm

set_option maxHeartbeats 4000000
namespace Sm
open PySem PySem.Spec PyProof.Rows L2 Lf

/-! ## how it runs: one step each -/
section
variable {ρ : Env} {S : Sto} {α : Type}
@[simp] theorem rbind_ok {α β : Type} {a : α} {S : Sto} {g : α → M β} : (R.ok a S).bind g = g a S := rfl
@[simp] theorem rbind_er {α β : Type} {e : Exn} {S : Sto} {g : α → M β} : (R.er e S : R α).bind g = .er e S := rfl
@[simp] theorem rbind_no {α β : Type} {g : α → M β} : (R.no : R α).bind g = .no := rfl
@[simp] theorem view_d {x : PyData} : view S (.d x) = some x := rfl
@[simp] theorem view_o {x : List PyData} : view S (.o x) = some (.list x) := rfl
@[simp] theorem lift_some {c : PyData} : lift (some c) S = .ok (.d c) S := rfl
@[simp] theorem e1_eq {f : Vl → M Vl} {a : Ex} : e1 f a ρ S = (a ρ S).bind f := rfl
@[simp] theorem e2_eq {f : Vl → Vl → M Vl} {a b : Ex} : e2 f a b ρ S = (a ρ S).bind fun x S1 => (b ρ S1).bind fun y => f x y := rfl
@[simp] theorem eK_eq {x : PyData} : eK x ρ S = .ok (.d x) S := rfl
@[simp] theorem asNil_eq : asNil ρ S = .ok [] S := rfl
@[simp] theorem asCons_eq {a : Ex} {r : Exs} : asCons a r ρ S = (a ρ S).bind fun x S1 => (r ρ S1).bind fun xs S2 => .ok (x :: xs) S2 := rfl
@[simp] theorem eArgs_eq {f : List Vl → M Vl} {r : Exs} : eArgs f r ρ S = (r ρ S).bind f := rfl
@[simp] theorem eTest_eq {a : Ex} : eTest a ρ S = (a ρ S).bind toB := rfl
@[simp] theorem eNotT_eq {a : Env → M Bool} : eNotT a ρ S = (a ρ S).bind fun b S1 => .ok (!b) S1 := rfl
@[simp] theorem toB_eq {b : Bool} : toB (.d (.bool b)) S = .ok b S := rfl
theorem eV_ok {i : Nat} {x : Vl} (h : ρ[i]? = some (some x)) : eV i ρ S = .ok x S := by unfold eV; rw [h]
@[simp] theorem lift1_d {f : PyData → Option PyData} {x : PyData} : lift1 f (.d x) S = lift (f x) S := rfl
@[simp] theorem lift1_o {f : PyData → Option PyData} {x : List PyData} : lift1 f (.o x) S = lift (f (.list x)) S := rfl
@[simp] theorem lift2_dd {f : PyData → PyData → Option PyData} {x y : PyData} : lift2 f (.d x) (.d y) S = lift (f x y) S := rfl
@[simp] theorem lift2_od {f : PyData → PyData → Option PyData} {x : List PyData} {y : PyData} : lift2 f (.o x) (.d y) S = lift (f (.list x) y) S := rfl
@[simp] theorem lift2_c0 {f : PyData → PyData → Option PyData} {x : List PyData} {y : PyData} {r : Sto} : lift2 f (.c 0) (.d y) (x :: r) = lift (f (.list x) y) (x :: r) := rfl
@[simp] theorem liftA_1 {f : List PyData → Option PyData} {x : PyData} : liftA f [.d x] S = lift (f [x]) S := rfl
@[simp] theorem liftA_1o {f : List PyData → Option PyData} {x : List PyData} : liftA f [.o x] S = lift (f [.list x]) S := rfl
@[simp] theorem liftA_2 {f : List PyData → Option PyData} {x y : PyData} : liftA f [.d x, .d y] S = lift (f [x, y]) S := rfl
@[simp] theorem intOp_ii {g : Int → Int → Option PyData} {i j : Int} : intOp g (.int i) (.int j) = g i j := rfl
@[simp] theorem addD_ii {i j : Int} : addD (.int i) (.int j) = some (.int (i + j)) := rfl
@[simp] theorem subD_ii {i j : Int} : subD (.int i) (.int j) = some (.int (i - j)) := rfl
@[simp] theorem mulD_ii {i j : Int} : mulD (.int i) (.int j) = mulI i j := rfl
@[simp] theorem divD_ii {i j : Int} : divD (.int i) (.int j) = divI i j := rfl
@[simp] theorem modD_ii {i j : Int} : modD (.int i) (.int j) = modI i j := rfl
@[simp] theorem gtF_ii {i j : Int} : gtF (.int i) (.int j) = some (.bool (decide (j < i))) := rfl
@[simp] theorem geF_ii {i j : Int} : geF (.int i) (.int j) = some (.bool (decide (j ≤ i))) := rfl
@[simp] theorem leF_ii {i j : Int} : leF (.int i) (.int j) = some (.bool (decide (i ≤ j))) := rfl
@[simp] theorem ltF_ii {i j : Int} : ltF (.int i) (.int j) = some (.bool (decide (i < j))) := rfl
@[simp] theorem fInt_i {i : Int} : fInt [.int i] = some (.int i) := rfl
@[simp] theorem sE_ok {x : Vl} {k : Vl → Sto → Option (Out × Env × Sto)} : sE (.ok x S) ρ k = k x S := rfl
@[simp] theorem sRet_eq {e : Ex} : sRet e ρ S = sE (e ρ S) ρ fun x S1 => some (.rt x, ρ, S1) := rfl
@[simp] theorem sSet_eq {i : Nat} {e : Ex} : sSet i e ρ S = sE (e ρ S) ρ fun x S1 => if notO x then some (.nx, ρ.set i (some x), S1) else none := rfl
@[simp] theorem sNil_eq : sNil ρ S = some (.nx, ρ, S) := rfl
@[simp] theorem notO_d {x : PyData} : notO (.d x) = true := rfl
@[simp] theorem notO_c {x : Nat} : notO (.c x) = true := rfl
theorem sSeq_nx {a b : Sx} {ρ1 : Env} {S1 : Sto} (h : a ρ S = some (.nx, ρ1, S1)) : sSeq a b ρ S = b ρ1 S1 := by unfold sSeq; rw [h]
theorem sSeq_rt {a b : Sx} {ρ1 : Env} {S1 : Sto} {x : Vl} (h : a ρ S = some (.rt x, ρ1, S1)) : sSeq a b ρ S = some (.rt x, ρ1, S1) := by unfold sSeq; rw [h]
theorem sIf_t {c : Env → M Bool} {a b : Sx} {S1 : Sto} (h : c ρ S = .ok true S1) : sIf c a b ρ S = a ρ S1 := by unfold sIf; rw [h]
theorem sIf_f {c : Env → M Bool} {a b : Sx} {S1 : Sto} (h : c ρ S = .ok false S1) : sIf c a b ρ S = b ρ S1 := by unfold sIf; rw [h]
end

theorem fn_rt {n : Nat} {b : Sx} {xs : List Vl} {S S' : Sto} {x y : Vl} {ρ0 : Env} (h0 : xs.all notO = true) (hr : xs.map some ++ List.replicate (n - xs.length) none = ρ0) (h : ∃ ρ1, b ρ0 S = some (.rt x, ρ1, S')) (hy : retV x = y) : runF n b xs S = .ok y S' := by
  subst hr hy
  obtain ⟨ρ1, h⟩ := h
  unfold runF
  rw [if_pos h0, h]
  rfl
theorem fn_nx {n : Nat} {b : Sx} {xs : List Vl} {S S' : Sto} {ρ0 : Env} (h0 : xs.all notO = true) (hr : xs.map some ++ List.replicate (n - xs.length) none = ρ0) (h : ∃ ρ1, b ρ0 S = some (.nx, ρ1, S')) : runF n b xs S = .ok (.d .none) S' := by
  subst hr
  obtain ⟨ρ1, h⟩ := h
  unfold runF
  rw [if_pos h0, h]
  rfl
theorem callF_ok {n : Nat} {F : Fn} {xs : List Vl} {S : Sto} {r : R Vl} (h0 : (xs.all notO && xs.length == n) = true) (h : F xs S = r) : callF n F xs S = r := by
  unfold callF
  rw [if_pos h0, h]
theorem sFor_ok {pt : Tg} {fi : Ix} {b : Sx} {ρ : Env} {S S1 : Sto} {ds : List PyData} {r : Option (Out × Env × Sto)} (h : fi ρ S = .ok ds S1) (h2 : loopS pt b ds ρ S1 = r) : sFor pt fi b ρ S = r := by
  unfold sFor
  rw [h]
  exact h2

/-! ## step by step -/
def Rts (b : Sx) (ρ : Env) (S : Sto) (x : Vl) (S' : Sto) : Prop := ∃ ρ1, b ρ S = some (.rt x, ρ1, S')
def Nxs (b : Sx) (ρ : Env) (S : Sto) (ρ' : Env) (S' : Sto) : Prop := b ρ S = some (.nx, ρ', S')
section
variable {a b : Sx} {ρ ρ1 ρ2 : Env} {S S1 S2 : Sto} {x y : Vl} {e : Ex} {c : Env → M Bool} {i : Nat}
theorem Rts.nx (h : Nxs a ρ S ρ1 S1) (k : Rts b ρ1 S1 x S2) : Rts (sSeq a b) ρ S x S2 := by
  obtain ⟨ρ2, k⟩ := k
  exact ⟨ρ2, by rw [sSeq_nx h]; exact k⟩
theorem Rts.stop (k : Rts a ρ S x S2) : Rts (sSeq a b) ρ S x S2 := by
  obtain ⟨ρ2, k⟩ := k
  exact ⟨ρ2, sSeq_rt k⟩
theorem Rts.ret (h : e ρ S = .ok x S1) : Rts (sRet e) ρ S x S1 := ⟨ρ, by rw [sRet_eq, h]; rfl⟩
theorem Rts.ifT (h : c ρ S = .ok true S1) (k : Rts a ρ S1 x S2) : Rts (sIf c a b) ρ S x S2 := by
  obtain ⟨ρ2, k⟩ := k
  exact ⟨ρ2, by rw [sIf_t h]; exact k⟩
theorem Rts.ifF (h : c ρ S = .ok false S1) (k : Rts b ρ S1 x S2) : Rts (sIf c a b) ρ S x S2 := by
  obtain ⟨ρ2, k⟩ := k
  exact ⟨ρ2, by rw [sIf_f h]; exact k⟩
theorem Nxs.seq (h : Nxs a ρ S ρ1 S1) (k : Nxs b ρ1 S1 ρ2 S2) : Nxs (sSeq a b) ρ S ρ2 S2 := (sSeq_nx h).trans k
theorem Nxs.ifT (h : c ρ S = .ok true S1) (k : Nxs a ρ S1 ρ2 S2) : Nxs (sIf c a b) ρ S ρ2 S2 := (sIf_t h).trans k
theorem Nxs.ifF (h : c ρ S = .ok false S1) (k : Nxs b ρ S1 ρ2 S2) : Nxs (sIf c a b) ρ S ρ2 S2 := (sIf_f h).trans k
theorem Nxs.set {d : PyData} (h : e ρ S = .ok (.d d) S1) : Nxs (sSet i e) ρ S (ρ.set i (some (.d d))) S1 := by
  show sSet i e ρ S = _
  rw [sSet_eq, h]
  rfl
theorem Nxs.nil : Nxs sNil ρ S ρ S := rfl
theorem Nxs.expr (h : e ρ S = .ok x S1) : Nxs (sExpr e) ρ S ρ S1 := by
  show sExpr e ρ S = _
  unfold sExpr
  rw [h]
  rfl
theorem Nxs.asgn {pt : Tg} {d : PyData} (h : e ρ S = .ok (.d d) S1) (k : asg pt d ρ = some ρ1) : Nxs (sAsg pt e) ρ S ρ1 S1 := by
  show sAsg pt e ρ S = _
  unfold sAsg
  rw [h]
  show (match asg pt d ρ with
    | some ρ' => some (Out.nx, ρ', S1)
    | none => none) = _
  rw [k]
theorem Nxs.par {j : Nat} {f : Ex} {d d' : PyData} (h : e ρ S = .ok (.d d) S1) (k : f ρ S1 = .ok (.d d') S2) : Nxs (sPar i j e f) ρ S ((ρ.set i (some (.d d))).set j (some (.d d'))) S2 := by
  show sPar i j e f ρ S = _
  unfold sPar
  rw [h]
  show sE (f ρ S1) ρ _ = _
  rw [k]
  rfl
theorem Nxs.for_ {pt : Tg} {fi : Ix} {ds : List PyData} (h : fi ρ S = .ok ds S1) (k : loopS pt b ds ρ S1 = some (.nx, ρ1, S2)) : Nxs (sFor pt fi b) ρ S ρ1 S2 := sFor_ok h k
theorem loop_nil {pt : Tg} : loopS pt b [] ρ S = some (.nx, ρ, S) := rfl
theorem loop_cons {pt : Tg} {d : PyData} {ds : List PyData} {r : Option (Out × Env × Sto)} (h : asg pt d ρ = some ρ1) (k : Nxs b ρ1 S ρ2 S1) (l : loopS pt b ds ρ2 S1 = r) : loopS pt b (d :: ds) ρ S = r := by
  unfold loopS
  rw [h]
  show (match b ρ1 S with
      | some (.nx, ρ2, S2) => loopS pt b ds ρ2 S2
      | some (.ct, ρ2, S2) => loopS pt b ds ρ2 S2
      | some (.bk, ρ2, S2) => some (.nx, ρ2, S2)
      | some r => some r
      | none => none) = r
  rw [k]
  exact l
theorem fn_rts {n : Nat} {xs : List Vl} {S' : Sto} {ρ0 : Env} (h0 : xs.all notO = true) (hr : xs.map some ++ List.replicate (n - xs.length) none = ρ0) (h : Rts b ρ0 S x S') (hy : retV x = y) : runF n b xs S = .ok y S' := fn_rt h0 hr h hy
/-! expressions -/
theorem ev_2 {f : PyData → PyData → Option PyData} {e' : Ex} {p q r : PyData} (h : e ρ S = .ok (.d p) S1) (k : e' ρ S1 = .ok (.d q) S2) (hf : f p q = some r) : e2 (lift2 f) e e' ρ S = .ok (.d r) S2 := by
  rw [e2_eq, h, rbind_ok, k, rbind_ok, lift2_dd, hf]
  rfl
theorem ev_1 {f : PyData → Option PyData} {p r : PyData} (h : e ρ S = .ok (.d p) S1) (hf : f p = some r) : e1 (lift1 f) e ρ S = .ok (.d r) S1 := by
  rw [e1_eq, h, rbind_ok, lift1_d, hf]
  rfl
theorem ev_A1 {f : List PyData → Option PyData} {p r : PyData} (h : e ρ S = .ok (.d p) S1) (hf : f [p] = some r) : eArgs (liftA f) (asCons e asNil) ρ S = .ok (.d r) S1 := by
  rw [eArgs_eq, asCons_eq, h, rbind_ok, asNil_eq, rbind_ok, rbind_ok, liftA_1, hf]
  rfl
theorem ev_A2 {f : List PyData → Option PyData} {e' : Ex} {p q r : PyData} (h : e ρ S = .ok (.d p) S1) (k : e' ρ S1 = .ok (.d q) S2) (hf : f [p, q] = some r) : eArgs (liftA f) (asCons e (asCons e' asNil)) ρ S = .ok (.d r) S2 := by
  rw [eArgs_eq, asCons_eq, h, rbind_ok, asCons_eq, k, rbind_ok, asNil_eq, rbind_ok, rbind_ok, rbind_ok, liftA_2, hf]
  rfl
theorem ev_c1 {F : Fn} {S3 : Sto} {r : Vl} (h : e ρ S = .ok x S1) (hn : notO x = true) (k : F [x] S1 = .ok r S3) : eArgs (callF 1 F) (asCons e asNil) ρ S = .ok r S3 := by
  rw [eArgs_eq, asCons_eq, h, rbind_ok, asNil_eq, rbind_ok, rbind_ok]
  exact callF_ok (by simp [hn]) k
theorem ev_c2 {F : Fn} {e' : Ex} {S3 : Sto} {r : Vl} (h : e ρ S = .ok x S1) (h' : e' ρ S1 = .ok y S2) (hn : notO x = true) (hn' : notO y = true) (k : F [x, y] S2 = .ok r S3) : eArgs (callF 2 F) (asCons e (asCons e' asNil)) ρ S = .ok r S3 := by
  rw [eArgs_eq, asCons_eq, h, rbind_ok, asCons_eq, h', rbind_ok, asNil_eq, rbind_ok, rbind_ok, rbind_ok]
  exact callF_ok (by simp [hn, hn']) k
theorem ev_c3 {F : Fn} {e' e'' : Ex} {S3 S4 : Sto} {r z : Vl} (h : e ρ S = .ok x S1) (h' : e' ρ S1 = .ok y S2) (h'' : e'' ρ S2 = .ok z S3) (hn : notO x = true) (hn' : notO y = true) (hn'' : notO z = true) (k : F [x, y, z] S3 = .ok r S4) : eArgs (callF 3 F) (asCons e (asCons e' (asCons e'' asNil))) ρ S = .ok r S4 := by
  rw [eArgs_eq, asCons_eq, h, rbind_ok, asCons_eq, h', rbind_ok, asCons_eq, h'', rbind_ok, asNil_eq, rbind_ok, rbind_ok, rbind_ok, rbind_ok]
  exact callF_ok (by simp [hn, hn', hn'']) k
theorem ev_test {t : Bool} (h : e ρ S = .ok (.d (.bool t)) S1) : eTest e ρ S = .ok t S1 := by
  rw [eTest_eq, h]
  rfl
theorem ev_notT {t : Bool} (h : c ρ S = .ok t S1) : eNotT c ρ S = .ok (!t) S1 := by
  rw [eNotT_eq, h]
  rfl
theorem ev_orF {c' : Env → M Bool} {t : Bool} (h : c ρ S = .ok false S1) (k : c' ρ S1 = .ok t S2) : eOrT c c' ρ S = .ok t S2 := by
  show (c ρ S).bind _ = _
  rw [h]
  exact k
theorem ev_andF {c' : Env → M Bool} (h : c ρ S = .ok false S1) : eAndT c c' ρ S = .ok false S1 := by
  show (c ρ S).bind _ = _
  rw [h]
  rfl
theorem ev_andT {c' : Env → M Bool} {t : Bool} (h : c ρ S = .ok true S1) (k : c' ρ S1 = .ok t S2) : eAndT c c' ρ S = .ok t S2 := by
  show (c ρ S).bind _ = _
  rw [h]
  exact k
theorem ev_t2 {e' : Ex} {p q : PyData} (h : e ρ S = .ok (.d p) S1) (k : e' ρ S1 = .ok (.d q) S2) : eArgs mkTup (asCons e (asCons e' asNil)) ρ S = .ok (.d (.tuple [p, q])) S2 := by
  rw [eArgs_eq, asCons_eq, h, rbind_ok, asCons_eq, k, rbind_ok, asNil_eq, rbind_ok, rbind_ok, rbind_ok]
  rfl
theorem ev_chain {f g : PyData → PyData → Option PyData} {e' e'' : Ex} {p q r z : PyData} {S3 : Sto} (h : e ρ S = .ok (.d p) S1) (h' : e' ρ S1 = .ok (.d q) S2) (hf : f p q = some (.bool true)) (h'' : e'' ρ S2 = .ok (.d r) S3) (hg : g q r = some z) : eChain f g e e' e'' ρ S = .ok (.d z) S3 := by
  unfold eChain
  rw [h, rbind_ok, h', rbind_ok, lift2_dd, hf]
  show ((e'' ρ S2).bind _) = _
  rw [h'', rbind_ok, lift2_dd, hg]
  rfl
theorem ev_chainF {f g : PyData → PyData → Option PyData} {e' e'' : Ex} {p q : PyData} (h : e ρ S = .ok (.d p) S1) (h' : e' ρ S1 = .ok (.d q) S2) (hf : f p q = some (.bool false)) : eChain f g e e' e'' ρ S = .ok (.d (.bool false)) S2 := by
  unfold eChain
  rw [h, rbind_ok, h', rbind_ok, lift2_dd, hf]
  rfl
end

/-! ## drawing -/
def UrnOk (n : Nat) (S : Sto) : Prop := ∃ a b c : Int, S = [[.int a, .int b, .int c]] ∧ 0 ≤ a ∧ 0 ≤ b ∧ b < 2 ^ 62 ∧ 0 ≤ c ∧ c + n ≤ 1000000
theorem UrnOk.le {n m : Nat} {S : Sto} (h : UrnOk n S) (e : m ≤ n) : UrnOk m S := by
  obtain ⟨a, b, c, h1, h2, h3, h4, h5, h6⟩ := h
  exact ⟨a, b, c, h1, h2, h3, h4, h5, by omega⟩
def takeB : Sx := (sSeq (sIf (eTest (e2 (lift2 gtF) (e2 (lift2 ixLT) (eV 0) (eK (.int 0))) (eK (.int 0)))) (sSeq (sSet 2 (e2 (lift2 modD) (eArgs (liftA fInt) (asCons (e2 (lift2 ixLT) (eV 0) (eK (.int 0))) asNil)) (eV 1)))
    (sSeq (sPut 0 (eK (.int 0)) (e2 (lift2 divD) (e2 (lift2 ixLT) (eV 0) (eK (.int 0))) (eV 1)))
    (sRet (eV 2)))) sNil)
    (sSeq (sPut 0 (eK (.int 2)) (e2 (lift2 addD) (e2 (lift2 ixLT) (eV 0) (eK (.int 2))) (eK (.int 1))))
    (sSeq (sSet 3 (e2 (lift2 modD) (eArgs (liftA fInt) (asCons (e2 (lift2 mulD) (e2 (lift2 addD) (e2 (lift2 ixLT) (eV 0) (eK (.int 1))) (e2 (lift2 mulD) (eK (.int 48271)) (e2 (lift2 ixLT) (eV 0) (eK (.int 2))))) (e2 (lift2 addD) (eK (.int 39373)) (e2 (lift2 ixLT) (eV 0) (eK (.int 2))))) asNil)) (eK (.int 2147483647))))
    (sSeq (sSet 4 (e2 (lift2 addD) (e2 (lift2 modD) (eArgs (liftA fInt) (asCons (eV 3) asNil)) (eK (.int 40009))) (eK (.int 7))))
    (sSeq (sSet 5 (e2 (lift2 modD) (eArgs (liftA fInt) (asCons (e2 (lift2 mulD) (e2 (lift2 addD) (e2 (lift2 addD) (eV 3) (e2 (lift2 ixLT) (eV 0) (eK (.int 2)))) (e2 (lift2 divD) (e2 (lift2 ixLT) (eV 0) (eK (.int 1))) (eK (.int 1000003)))) (eV 4)) asNil)) (eK (.int 2147483629))))
    (sRet (e2 (lift2 modD) (eArgs (liftA fInt) (asCons (e2 (lift2 divD) (e2 (lift2 modD) (eArgs (liftA fInt) (asCons (e2 (lift2 addD) (e2 (lift2 mulD) (eV 5) (eK (.int 48271))) (eV 3)) asNil)) (eK (.int 2147483587))) (eK (.int 64))) asNil)) (eV 1))))))))
def takeF : Fn := runF 6 takeB
theorem smallI_of {i : Int} (h : i.natAbs < 2 ^ 4000) : smallI i = true := decide_eq_true h
theorem smallI_lt {i : Int} (h0 : 0 ≤ i) (h : i < 2 ^ 70) : smallI i = true := by
  refine smallI_of ?_
  have : i.natAbs < 2 ^ 70 := by omega
  exact Nat.lt_trans this (by decide +kernel)
theorem mulI_ok {i j : Int} (h1 : smallI i = true) (h2 : smallI j = true) : mulI i j = some (.int (i * j)) := by unfold mulI; rw [h1, h2]; rfl
theorem divI_ok {i j : Int} (h1 : 0 < j) (h2 : smallI j = true) : divI i j = some (.int (i / j)) := by unfold divI; rw [h2, decide_eq_true h1]; rfl
theorem modI_ok {i j : Int} (h1 : 0 < j) : modI i j = some (.int (i % j)) := by unfold modI; rw [if_pos h1]
theorem take_ok {n : Nat} {S : Sto} {low : Int} (u : UrnOk (n + 1) S) (h1 : 1 ≤ low) (hs : smallI low = true) : ∃ r S', takeF [.c 0, .d (.int low)] S = .ok (.d (.int r)) S' ∧ 0 ≤ r ∧ r < low ∧ UrnOk n S' := by
  obtain ⟨a, b, c, rfl, ha, hb, hb2, hc, hn⟩ := u
  have i0 : ∀ x y z : Int, ixLT (.list [.int x, .int y, .int z]) (.int 0) = some (.int x) := fun _ _ _ => rfl
  have i1 : ∀ x y z : Int, ixLT (.list [.int x, .int y, .int z]) (.int 1) = some (.int y) := fun _ _ _ => rfl
  have i2 : ∀ x y z : Int, ixLT (.list [.int x, .int y, .int z]) (.int 2) = some (.int z) := fun _ _ _ => rfl
  by_cases h : 0 < a
  · refine ⟨a % low, [[.int (a / low), .int b, .int c]], ?_, Int.emod_nonneg _ (by omega), Int.emod_lt_of_pos _ (by omega), _, _, _, rfl, Int.ediv_nonneg ha (by omega), hb, hb2, hc, by omega⟩
    have e1 : modI a low = some (.int (a % low)) := modI_ok (by omega)
    have e2 : divI a low = some (.int (a / low)) := divI_ok (by omega) hs
    simp [takeF, runF, takeB, sSeq, sIf, eV, sPut, putV, i0, i1, i2, h, e1, e2, outR, retV, ixN]
  · have ha0 : a = 0 := by omega
    subst ha0
    have c1 : (0 : Int) ≤ c + 1 := by omega
    have p1 : smallI (48271 : Int) = true := by decide +kernel
    have p2 : smallI (c + 1) = true := smallI_lt (by omega) (by omega)
    have p3 : smallI (b + 48271 * (c + 1)) = true := smallI_lt (by omega) (by omega)
    have p4 : smallI (39373 + (c + 1)) = true := smallI_lt (by omega) (by omega)
    have m1 := mulI_ok p1 p2
    have m2 := mulI_ok p3 p4
    generalize hx : (b + 48271 * (c + 1)) * (39373 + (c + 1)) = x at m2
    have o0 := Int.emod_nonneg x (b := 2147483647) (by decide)
    have o1 := Int.emod_lt_of_pos x (b := 2147483647) (by decide)
    generalize hy : x % 2147483647 = y at o0 o1
    have d1 : modI x 2147483647 = some (.int y) := by rw [modI_ok (by decide), hy]
    have f0 := Int.emod_nonneg y (b := 40009) (by decide)
    have f1 := Int.emod_lt_of_pos y (b := 40009) (by decide)
    have d2 : modI y 40009 = some (.int (y % 40009)) := modI_ok (by decide)
    generalize hf : y % 40009 = far at f0 f1 d2
    have d3 : divI b 1000003 = some (.int (b / 1000003)) := divI_ok (by decide) (by decide +kernel)
    have b0 : 0 ≤ b / 1000003 := Int.ediv_nonneg hb (by decide)
    have b1 : b / 1000003 ≤ b := Int.ediv_le_self _ hb
    generalize hq : b / 1000003 = q at b0 b1 d3
    have m3 : mulI (y + (c + 1) + q) (far + 7) = some (.int ((y + (c + 1) + q) * (far + 7))) := mulI_ok (smallI_lt (by omega) (by omega)) (smallI_lt (by omega) (by omega))
    generalize hz : (y + (c + 1) + q) * (far + 7) = z at m3
    have t0 := Int.emod_nonneg z (b := 2147483629) (by decide)
    have t1 := Int.emod_lt_of_pos z (b := 2147483629) (by decide)
    have d4 : modI z 2147483629 = some (.int (z % 2147483629)) := modI_ok (by decide)
    generalize ht : z % 2147483629 = t at t0 t1 d4
    have m4 : mulI t 48271 = some (.int (t * 48271)) := mulI_ok (smallI_lt (by omega) (by omega)) p1
    have d5 : modI (t * 48271 + y) 2147483587 = some (.int ((t * 48271 + y) % 2147483587)) := modI_ok (by decide)
    generalize hv : (t * 48271 + y) % 2147483587 = v at d5
    have d6 : divI v 64 = some (.int (v / 64)) := divI_ok (by decide) (by decide +kernel)
    have d7 : modI (v / 64) low = some (.int (v / 64 % low)) := modI_ok (by omega)
    refine ⟨v / 64 % low, [[.int 0, .int b, .int (c + 1)]], ?_, Int.emod_nonneg _ (by omega), Int.emod_lt_of_pos _ (by omega), _, _, _, rfl, Int.le_refl _, hb, hb2, c1, by omega⟩
    simp [takeF, runF, takeB, sSeq, sIf, eV, sPut, putV, i0, i1, i2, m1, m2, d1, d2, d3, m3, d4, m4, d5, d6, d7, outR, retV, ixN]
end Sm

set_option maxHeartbeats 4000000
namespace Sm
open PySem PySem.Spec PyProof.Rows L2 Lf

/-! # typed functions beside the meanings -/
def TM (α : Type) : Type := Sto → R α
instance : Monad TM where
  pure a := fun S => .ok a S
  bind m g := fun S => R.bind (m S) fun a S' => g a S'
theorem tm_pure {α : Type} (a : α) (S : Sto) : (pure a : TM α) S = .ok a S := rfl
theorem tm_bind {α β : Type} (m : TM α) (g : α → TM β) (S : Sto) : (m >>= g) S = R.bind (m S) fun a S' => g a S' := rfl
instance : LawfulMonad TM := LawfulMonad.mk' TM
  (id_map := fun m => by
    funext S
    show R.bind (m S) _ = m S
    cases m S <;> rfl)
  (pure_bind := fun a g => rfl)
  (bind_assoc := fun m g h => by
    funext S
    show R.bind (R.bind (m S) _) _ = R.bind (m S) _
    cases m S <;> rfl)
def TM.fail {α : Type} : TM α := fun _ => .no
def okT {α : Type} (b : Bool) (x : α) : TM α := if b then pure x else TM.fail
def someT {α : Type} (o : Option α) : TM α := match o with
  | some x => pure x
  | none => TM.fail
@[simp] theorem okT_true {α : Type} (x : α) : okT true x = pure x := rfl
@[simp] theorem someT_some {α : Type} (x : α) : someT (some x) = pure x := rfl

/-! ## how data are written -/
def mkSeq (k : Bool) (ds : List PyData) : PyData := bif k then .tuple ds else .list ds
def eSq {α : Type} (k : Bool) (e : α → PyData) (xs : List α) : PyData := mkSeq k (xs.map e)
def eP2 {α β : Type} (k : Bool) (e : α → PyData) (f : β → PyData) (p : α × β) : PyData := mkSeq k [e p.1, f p.2]
def eP3 {α β γ : Type} (k : Bool) (e : α → PyData) (f : β → PyData) (g : γ → PyData) (p : α × β × γ) : PyData := mkSeq k [e p.1, f p.2.1, g p.2.2]
def eO {α : Type} (e : α → PyData) : Option α → PyData
  | some x => e x
  | none => .none
def eU : Unit → PyData := fun _ => .none
def eM {κ α : Type} (ek : κ → PyData) (e : α → PyData) (m : List (κ × α)) : PyData := .dict (m.map fun p => (ek p.1, e p.2))
def eId : PyData → PyData := fun d => d
/-- as a value by a name -/
def vD {α : Type} (e : α → PyData) (x : α) : Vl := .d (e x)
def vO {α : Type} (e : α → PyData) (xs : List α) : Vl := .o (xs.map e)
def vM {κ α : Type} (t : Bool) (ek : κ → PyData) (e : α → PyData) (m : List (κ × α)) : Vl := .m t (m.map fun p => (ek p.1, e p.2))

/-! ## contexts -/
abbrev Ctx := List (Nat × Vl)
def look (i : Nat) : Ctx → Option Vl
  | [] => none
  | (j, v) :: r => bif Nat.beq i j then some v else look i r
def Ag (n : Nat) (Γ : Ctx) (ρ : Env) : Prop := ρ.length = n ∧ ∀ i v, look i Γ = some v → ρ[i]? = some (some v)
/-- all that Γ' says Γ says -/
def SubC : Ctx → Ctx → Prop
  | [], _ => True
  | (i, v) :: r, Γ => look i Γ = some v ∧ SubC r Γ
/-- the same, of slots that are not wiped -/
def SubW (vs : List Nat) : Ctx → Ctx → Prop
  | [], _ => True
  | (i, v) :: r, Γ => (look i Γ = some v ∧ vs.contains i = false) ∧ SubW vs r Γ
theorem look_cons {i j : Nat} {v : Vl} {r : Ctx} : look i ((j, v) :: r) = if i = j then some v else look i r := by
  show (bif Nat.beq i j then some v else look i r) = _
  by_cases h : i = j
  · rw [if_pos h, h, Nat.beq_refl]; rfl
  · rw [if_neg h]
    have : Nat.beq i j = false := by
      cases e : Nat.beq i j with
      | false => rfl
      | true => exact absurd (Nat.eq_of_beq_eq_true e) h
    rw [this]
    rfl
theorem Ag.sub {n : Nat} {Γ : Ctx} {ρ : Env} (h : Ag n Γ ρ) : ∀ {Γ' : Ctx}, SubC Γ' Γ → Ag n Γ' ρ
  | [], _ => ⟨h.1, fun i v e => by cases e⟩
  | (j, w) :: r, s => by
    obtain ⟨h1, h2⟩ := h.sub s.2
    refine ⟨h1, fun i v e => ?_⟩
    rw [look_cons] at e
    split at e
    · rename_i c
      cases e
      rw [c]
      exact h.2 _ _ s.1
    · exact h2 i v e
theorem wipeE_len : ∀ (vs : List Nat) (ρ : Env), (wipeE ρ vs).length = ρ.length
  | [], _ => rfl
  | v :: vs, ρ => by unfold wipeE; rw [List.length_set, wipeE_len]
theorem wipeE_get {i : Nat} : ∀ {vs : List Nat} {ρ : Env}, vs.contains i = false → (wipeE ρ vs)[i]? = ρ[i]?
  | [], _, _ => rfl
  | v :: vs, ρ, h => by
    rw [List.contains_cons, Bool.or_eq_false_iff] at h
    have hne : v ≠ i := fun z => by rw [z] at h; simp at h
    unfold wipeE
    rw [List.getElem?_set_ne hne, wipeE_get h.2]
theorem Ag.wipe {n : Nat} {vs : List Nat} {Γ : Ctx} {ρ : Env} (h : Ag n Γ ρ) : ∀ {Γ' : Ctx}, SubW vs Γ' Γ → Ag n Γ' (wipeE ρ vs)
  | [], _ => ⟨by rw [wipeE_len]; exact h.1, fun i v e => by cases e⟩
  | (j, w) :: r, s => by
    obtain ⟨h1, h2⟩ := h.wipe s.2
    refine ⟨h1, fun i v e => ?_⟩
    rw [look_cons] at e
    split at e
    · rename_i c
      cases e
      rw [c, wipeE_get s.1.2]
      exact h.2 _ _ s.1.1
    · exact h2 i v e
theorem Ag.set {n i : Nat} {Γ : Ctx} {ρ : Env} {v : Vl} (h : Ag n Γ ρ) (hi : i < n) : Ag n ((i, v) :: Γ) (ρ.set i (some v)) := by
  refine ⟨by rw [List.length_set]; exact h.1, fun j w e => ?_⟩
  rw [look_cons] at e
  split at e
  · rename_i c
    cases e
    subst c
    rw [List.getElem?_set_self (by rw [h.1]; exact hi)]
  · rename_i c
    rw [List.getElem?_set_ne (Ne.symm c)]
    exact h.2 j w e
/-- Γ says what the names hold -/
def AgL (ρ : Env) : Ctx → Prop
  | [] => True
  | (i, v) :: r => ρ[i]? = some (some v) ∧ AgL ρ r
theorem AgL.ag {n : Nat} {ρ : Env} (hn : ρ.length = n) : ∀ {Γ : Ctx}, AgL ρ Γ → Ag n Γ ρ
  | [], _ => ⟨hn, fun i v e => by cases e⟩
  | (j, w) :: r, h => by
    obtain ⟨_, h2⟩ := AgL.ag hn h.2
    refine ⟨hn, fun i v e => ?_⟩
    rw [look_cons] at e
    split at e
    · rename_i c
      cases e
      rw [c]
      exact h.1
    · exact h2 i v e

/-! ## expressions -/
def Rf {α β : Type} (enc : β → α) : R β → R α → Prop
  | .ok x S', r => r = .ok (enc x) S'
  | .er e S', r => r = .er e S'
  | .no, _ => True
theorem Rf.bind {α α' β β' : Type} {enc : β → α} {enc' : β' → α'} {t : R β} {r : R α} {k : β → Sto → R β'} {g : α → Sto → R α'} (h : Rf enc t r) (hk : ∀ x S, Rf enc' (k x S) (g (enc x) S)) : Rf enc' (t.bind k) (r.bind g) := by
  cases t with
  | ok x S => rw [show r = _ from h]; exact hk x S
  | er e S => rw [show r = _ from h]; exact rfl
  | no => trivial
def XP (n : Nat) (Γ : Ctx) (e : Ex) (v : Vl) : Prop := ∀ ρ S, Ag n Γ ρ → e ρ S = .ok v S
def XE {β : Type} (n : Nat) (Γ : Ctx) (e : Ex) (enc : β → Vl) (t : TM β) : Prop := ∀ ρ S, Ag n Γ ρ → Rf enc (t S) (e ρ S)
section
variable {n : Nat} {Γ : Ctx} {a b : Ex} {v w u : Vl} {α β γ : Type} {enc : β → Vl} {encA : α → Vl} {t : TM β} {ta : TM α} {k : α → TM β}
theorem XP.xe {x : β} (h : XP n Γ a (enc x)) : XE n Γ a enc (pure x) := fun ρ S hρ => h ρ S hρ
theorem xp_var {i : Nat} (h : look i Γ = some v) : XP n Γ (eV i) v := fun ρ S hρ => by
  unfold eV
  rw [hρ.2 i v h]
theorem xp_k {d : PyData} : XP n Γ (eK d) (.d d) := fun _ _ _ => rfl
theorem xp_1 {g : Vl → M Vl} (ha : XP n Γ a v) (h : ∀ S, g v S = .ok w S) : XP n Γ (e1 g a) w := fun ρ S hρ => by
  show R.bind (a ρ S) g = _
  rw [ha ρ S hρ]
  exact h S
theorem xp_2 {g : Vl → Vl → M Vl} (ha : XP n Γ a v) (hb : XP n Γ b w) (h : ∀ S, g v w S = .ok u S) : XP n Γ (e2 g a b) u := fun ρ S hρ => by
  show R.bind (a ρ S) _ = _
  rw [ha ρ S hρ]
  show R.bind (b ρ S) _ = _
  rw [hb ρ S hρ]
  exact h S
theorem x1_p {g : Vl → M Vl} (ha : XP n Γ a v) (h : ∀ S, Rf enc (t S) (g v S)) : XE n Γ (e1 g a) enc t := fun ρ S hρ => by
  show Rf enc _ (R.bind (a ρ S) g)
  rw [ha ρ S hρ]
  exact h S
theorem x1_m {g : Vl → M Vl} (ha : XE n Γ a encA ta) (h : ∀ x S, Rf enc (k x S) (g (encA x) S)) : XE n Γ (e1 g a) enc (ta >>= k) := fun ρ S hρ => Rf.bind (ha ρ S hρ) h
theorem x2_p {g : Vl → Vl → M Vl} (ha : XP n Γ a v) (h : XE n Γ (e1 (g v) b) enc t) : XE n Γ (e2 g a b) enc t := fun ρ S hρ => by
  show Rf enc _ (R.bind (a ρ S) _)
  rw [ha ρ S hρ]
  exact h ρ S hρ
theorem x2_m {g : Vl → Vl → M Vl} (ha : XE n Γ a encA ta) (h : ∀ x, XE n Γ (e1 (g (encA x)) b) enc (k x)) : XE n Γ (e2 g a b) enc (ta >>= k) := fun ρ S hρ => Rf.bind (ha ρ S hρ) fun x S1 => h x ρ S1 hρ
/-! arguments -/
variable {f : List Vl → M Vl} {r : Exs}
theorem xpa_nil (h : ∀ S, f [] S = .ok v S) : XP n Γ (eArgs f asNil) v := fun ρ S hρ => h S
theorem xpa_p (ha : XP n Γ a w) (h : XP n Γ (eArgs (fun xs => f (w :: xs)) r) v) : XP n Γ (eArgs f (asCons a r)) v := fun ρ S hρ => by
  have := h ρ S hρ
  show R.bind (R.bind (a ρ S) _) f = _
  rw [ha ρ S hρ]
  show R.bind (R.bind (r ρ S) _) f = _
  have this : R.bind (r ρ S) (fun xs => f (w :: xs)) = .ok v S := this
  cases e : r ρ S with
  | ok x S' => rw [e] at this; exact this
  | er x S' => rw [e] at this; exact this
  | no => rw [e] at this; exact this
theorem xa_nil (h : ∀ S, Rf enc (t S) (f [] S)) : XE n Γ (eArgs f asNil) enc t := fun ρ S hρ => h S
theorem bind_assocR {α β γ : Type} (m : R α) (g : α → Sto → R β) (h : β → Sto → R γ) : R.bind (R.bind m g) h = R.bind m fun x S => R.bind (g x S) h := by cases m <;> rfl
theorem eArgs_cons (ρ : Env) (S : Sto) : eArgs f (asCons a r) ρ S = R.bind (a ρ S) fun x S1 => eArgs (fun xs => f (x :: xs)) r ρ S1 := by
  show R.bind (R.bind (a ρ S) _) f = _
  rw [bind_assocR]
  congr 1
  funext x S1
  show R.bind (R.bind (r ρ S1) _) f = R.bind (r ρ S1) _
  rw [bind_assocR]
  rfl
theorem xa_p (ha : XP n Γ a w) (h : XE n Γ (eArgs (fun xs => f (w :: xs)) r) enc t) : XE n Γ (eArgs f (asCons a r)) enc t := fun ρ S hρ => by
  rw [eArgs_cons, ha ρ S hρ]
  exact h ρ S hρ
theorem xa_m (ha : XE n Γ a encA ta) (h : ∀ x, XE n Γ (eArgs (fun xs => f (encA x :: xs)) r) enc (k x)) : XE n Γ (eArgs f (asCons a r)) enc (ta >>= k) := fun ρ S hρ => by
  rw [eArgs_cons]
  exact Rf.bind (ha ρ S hρ) fun x S1 => h x ρ S1 hρ
theorem eArgs_star {kk : Bool} {ds : List PyData} {ρ : Env} {S : Sto} (ha : a ρ S = .ok (.d (mkSeq kk ds)) S) : eArgs f (asStar a r) ρ S = eArgs (fun xs => f (ds.map Vl.d ++ xs)) r ρ S := by
  show R.bind (R.bind (a ρ S) _) f = R.bind (r ρ S) _
  rw [ha]
  cases kk
  · show R.bind (R.bind (r ρ S) _) f = _
    rw [bind_assocR]; rfl
  · show R.bind (R.bind (r ρ S) _) f = _
    rw [bind_assocR]; rfl
theorem xpa_star {kk : Bool} {ds : List PyData} (ha : XP n Γ a (.d (mkSeq kk ds))) (h : XP n Γ (eArgs (fun xs => f (ds.map Vl.d ++ xs)) r) v) : XP n Γ (eArgs f (asStar a r)) v := fun ρ S hρ => by
  rw [eArgs_star (ha ρ S hρ)]
  exact h ρ S hρ
theorem xa_star {kk : Bool} {ds : List PyData} (ha : XP n Γ a (.d (mkSeq kk ds))) (h : XE n Γ (eArgs (fun xs => f (ds.map Vl.d ++ xs)) r) enc t) : XE n Γ (eArgs f (asStar a r)) enc t := fun ρ S hρ => by
  rw [eArgs_star (ha ρ S hρ)]
  exact h ρ S hρ
theorem call_ty {m : Nat} {F : Fn} {xs : List Vl} {S : Sto} {r : R β} (h : Rf enc r (F xs S)) (h0 : (xs.all notO && xs.length == m) = true := by rfl) : Rf enc r (callF m F xs S) := by
  unfold callF
  rw [if_pos h0]
  exact h
theorem callP_ty {m np nk : Nat} {pm : List Nat} {F : Fn} {xs ys zs : List Vl} {S : Sto} {r : R β} (h : Rf enc r (F zs S)) (h1 : xs.length = np ∧ ys.length = nk := by exact ⟨rfl, rfl⟩) (hz : permL pm (xs ++ ys) = zs := by rfl) (h0 : (zs.all notO && zs.length == m) = true := by rfl) : Rf enc r (callP m np nk pm F xs ys S) := by
  unfold callP
  rw [if_pos h1, hz]
  exact call_ty h h0
theorem x_kw0 {m nk : Nat} {pm : List Nat} {F : Fn} (h : XE n Γ (eArgs (callP m 0 nk pm F []) r) enc t) : XE n Γ (eKw m 0 nk pm F asNil r) enc t := h
/-! tests -/
def XT (n : Nat) (Γ : Ctx) (c : Env → M Bool) (t : TM Bool) : Prop := ∀ ρ S, Ag n Γ ρ → Rf id (t S) (c ρ S)
def XTP (n : Nat) (Γ : Ctx) (c : Env → M Bool) (b : Bool) : Prop := ∀ ρ S, Ag n Γ ρ → c ρ S = .ok b S
variable {c d : Env → M Bool} {p q : Bool} {tc td : TM Bool}
theorem XTP.xt (h : XTP n Γ c p) : XT n Γ c (pure p) := fun ρ S hρ => h ρ S hρ
theorem xtp_val (h : XP n Γ a (vD PyData.bool p)) : XTP n Γ (eTest a) p := fun ρ S hρ => by
  show R.bind (a ρ S) toB = _
  rw [h ρ S hρ]
  rfl
theorem xt_val (h : XE n Γ a (vD PyData.bool) tc) : XT n Γ (eTest a) tc := fun ρ S hρ => by
  have := h ρ S hρ
  show Rf id (tc S) (R.bind (a ρ S) toB)
  cases e : tc S with
  | ok x S' => rw [e] at this; rw [show a ρ S = _ from this]; exact rfl
  | er x S' => rw [e] at this; rw [show a ρ S = _ from this]; exact rfl
  | no => trivial
theorem xtp_not (h : XTP n Γ c p) : XTP n Γ (eNotT c) (!p) := fun ρ S hρ => by
  show R.bind (c ρ S) _ = _
  rw [h ρ S hρ]
  rfl
theorem xt_not (h : XT n Γ c tc) : XT n Γ (eNotT c) (tc >>= fun x => pure (!x)) := fun ρ S hρ => Rf.bind (h ρ S hρ) fun x S1 => rfl
theorem xtp_and (h : XTP n Γ c p) (k : XTP n Γ d q) : XTP n Γ (eAndT c d) (p && q) := fun ρ S hρ => by
  show R.bind (c ρ S) _ = _
  rw [h ρ S hρ]
  cases p
  · rfl
  · exact k ρ S hρ
theorem xtp_or (h : XTP n Γ c p) (k : XTP n Γ d q) : XTP n Γ (eOrT c d) (p || q) := fun ρ S hρ => by
  show R.bind (c ρ S) _ = _
  rw [h ρ S hρ]
  cases p
  · exact k ρ S hρ
  · rfl
theorem xt_and (h : XT n Γ c tc) (k : XT n Γ d td) : XT n Γ (eAndT c d) (tc >>= fun x => if x then td else pure false) := fun ρ S hρ => Rf.bind (h ρ S hρ) fun x S1 => by
  cases x
  · exact rfl
  · exact k ρ S1 hρ
theorem xt_or (h : XT n Γ c tc) (k : XT n Γ d td) : XT n Γ (eOrT c d) (tc >>= fun x => if x then pure true else td) := fun ρ S hρ => Rf.bind (h ρ S hρ) fun x S1 => by
  cases x
  · exact k ρ S1 hρ
  · exact rfl
theorem xt_andP (h : XTP n Γ c p) (k : XT n Γ d td) : XT n Γ (eAndT c d) (if p then td else pure false) := fun ρ S hρ => by
  show Rf id _ (R.bind (c ρ S) _)
  rw [h ρ S hρ]
  cases p
  · exact rfl
  · exact k ρ S hρ
theorem xt_orP (h : XTP n Γ c p) (k : XT n Γ d td) : XT n Γ (eOrT c d) (if p then pure true else td) := fun ρ S hρ => by
  show Rf id _ (R.bind (c ρ S) _)
  rw [h ρ S hρ]
  cases p
  · exact k ρ S hρ
  · exact rfl
/-! and, or, not, if as values -/
theorem xp_andV (h : XP n Γ a (vD PyData.bool p)) (k : XP n Γ b (vD PyData.bool q)) : XP n Γ (eAnd a b) (vD PyData.bool (p && q)) := fun ρ S hρ => by
  unfold eAnd
  rw [h ρ S hρ]
  cases p
  · rfl
  · exact k ρ S hρ
theorem xp_orV (h : XP n Γ a (vD PyData.bool p)) (k : XP n Γ b (vD PyData.bool q)) : XP n Γ (eOr a b) (vD PyData.bool (p || q)) := fun ρ S hρ => by
  unfold eOr
  rw [h ρ S hρ]
  cases p
  · exact k ρ S hρ
  · rfl
theorem x_andV (h : XE n Γ a (vD PyData.bool) tc) (k : XE n Γ b (vD PyData.bool) td) : XE n Γ (eAnd a b) (vD PyData.bool) (tc >>= fun x => if x then td else pure false) := fun ρ S hρ => Rf.bind (h ρ S hρ) fun x S1 => by
  cases x
  · exact rfl
  · exact k ρ S1 hρ
theorem x_orV (h : XE n Γ a (vD PyData.bool) tc) (k : XE n Γ b (vD PyData.bool) td) : XE n Γ (eOr a b) (vD PyData.bool) (tc >>= fun x => if x then pure true else td) := fun ρ S hρ => Rf.bind (h ρ S hρ) fun x S1 => by
  cases x
  · exact k ρ S1 hρ
  · exact rfl
theorem xp_notV (h : XP n Γ a (vD PyData.bool p)) : XP n Γ (eNot a) (vD PyData.bool (!p)) := fun ρ S hρ => by
  unfold eNot
  rw [h ρ S hρ]
  rfl
theorem x_notV (h : XE n Γ a (vD PyData.bool) tc) : XE n Γ (eNot a) (vD PyData.bool) (tc >>= fun x => pure (!x)) := fun ρ S hρ => Rf.bind (h ρ S hρ) fun x S1 => rfl
theorem xp_if {x y : β} (h : XTP n Γ c p) (ka : XP n Γ a (enc x)) (kb : XP n Γ b (enc y)) : XP n Γ (eIf c a b) (enc (if p then x else y)) := fun ρ S hρ => by
  show R.bind (c ρ S) _ = _
  rw [h ρ S hρ]
  cases p
  · exact kb ρ S hρ
  · exact ka ρ S hρ
theorem x_if {ta tb : TM β} (h : XT n Γ c tc) (ka : XE n Γ a enc ta) (kb : XE n Γ b enc tb) : XE n Γ (eIf c a b) enc (tc >>= fun x => if x then ta else tb) := fun ρ S hρ => Rf.bind (h ρ S hρ) fun x S1 => by
  cases x
  · exact kb ρ S1 hρ
  · exact ka ρ S1 hρ
theorem x_ifP {ta tb : TM β} (h : XTP n Γ c p) (ka : XE n Γ a enc ta) (kb : XE n Γ b enc tb) : XE n Γ (eIf c a b) enc (if p then ta else tb) := fun ρ S hρ => by
  show Rf enc _ (R.bind (c ρ S) _)
  rw [h ρ S hρ]
  cases p
  · exact kb ρ S hρ
  · exact ka ρ S hρ
/-- the same by another writing -/
theorem XE.conv {enc' : β → Vl} (h : XE n Γ a enc t) (e : enc = enc') : XE n Γ a enc' t := e ▸ h
theorem XE.map {enc' : γ → Vl} {g : β → γ} (h : XE n Γ a enc t) (e : ∀ x, enc' (g x) = enc x) : XE n Γ a enc' (t >>= fun x => pure (g x)) := fun ρ S hρ => by
  have := h ρ S hρ
  show Rf enc' (R.bind (t S) _) _
  cases et : t S with
  | ok x S' => rw [et] at this; rw [show a ρ S = _ from this, ← e]; exact rfl
  | er x S' => rw [et] at this; exact this
  | no => trivial
end
end Sm

set_option maxHeartbeats 4000000
namespace Sm
open PySem PySem.Spec PyProof.Rows L2 Lf

/-! ## targets -/
def TG (n : Nat) (pt : Tg) (d : PyData) (G : Ctx) : Prop := ∀ Γ ρ, Ag n Γ ρ → ∃ ρ', asg pt d ρ = some ρ' ∧ Ag n (G ++ Γ) ρ'
def TGs (n : Nat) (pts : List Tg) (ds : List PyData) (G : Ctx) : Prop := ∀ Γ ρ, Ag n Γ ρ → ∃ ρ', asgs pts ds ρ = some ρ' ∧ Ag n (G ++ Γ) ρ'
section
variable {n : Nat} {d : PyData} {pt : Tg} {pts : List Tg} {ds : List PyData} {G G1 G2 : Ctx}
theorem tg_n {i : Nat} (hi : i < n) : TG n (.n i) d [(i, .d d)] := fun Γ ρ h => ⟨_, by simp only [asg], h.set hi⟩
theorem tgs_nil : TGs n [] [] [] := fun Γ ρ h => ⟨ρ, by simp only [asgs], h⟩
theorem tgs_cons (h1 : TG n pt d G1) (h2 : TGs n pts ds G2) : TGs n (pt :: pts) (d :: ds) (G2 ++ G1) := fun Γ ρ h => by
  obtain ⟨ρ1, e1, a1⟩ := h1 Γ ρ h
  obtain ⟨ρ2, e2, a2⟩ := h2 _ ρ1 a1
  refine ⟨ρ2, ?_, by rw [List.append_assoc]; exact a2⟩
  unfold asgs
  rw [e1]
  exact e2
theorem tg_t {k : Bool} (h : TGs n pts ds G) : TG n (.t pts) (mkSeq k ds) G := fun Γ ρ a => by
  obtain ⟨ρ', e, a'⟩ := h Γ ρ a
  refine ⟨ρ', ?_, a'⟩
  cases k
  · show asg (.t pts) (.list ds) ρ = _
    simp only [asg]
    exact e
  · show asg (.t pts) (.tuple ds) ρ = _
    simp only [asg]
    exact e
end

/-! ## what is walked -/
def XI {α : Type} (n : Nat) (Γ : Ctx) (fi : Ix) (e : α → PyData) (t : TM (List α)) : Prop := ∀ ρ S, Ag n Γ ρ → Rf (fun xs => xs.map e) (t S) (fi ρ S)
def limT {α : Type} (xs : List α) : TM (List α) := okT (decide (xs.length ≤ big)) xs
def rangeI (lo : Int) (n : Nat) : List Int := (List.range n).map fun i => lo + (i : Nat)
theorem rangeL_eq (lo : Int) (n : Nat) : rangeL lo n = (rangeI lo n).map PyData.int := by unfold rangeL rangeI; rw [List.map_map]; rfl
def rangeT (j : Int) : TM (List Int) := okT (decide (-1000000 ≤ j ∧ j ≤ 1000000)) (rangeI 0 j.toNat)
def rangeT2 (i j : Int) : TM (List Int) := okT (decide (-1000000 ≤ i ∧ i ≤ 1000000 ∧ -1000000 ≤ j ∧ j ≤ 1000000)) (rangeI i (j - i).toNat)
def enumI {α : Type} (xs : List α) : List (Int × α) := (List.range xs.length).zipWith (fun (i : Nat) x => ((i : Int), x)) xs
theorem enumD_eq {α : Type} (e : α → PyData) (xs : List α) : enumD (xs.map e) = (enumI xs).map (eP2 true PyData.int e) := by
  unfold enumD enumI
  rw [List.length_map, List.zipWith_map_right, List.map_zipWith]
  rfl
def zipI {α β : Type} (xs : List α) (ys : List β) : List (α × β) := xs.zip ys
theorem zipD_eq {α β : Type} (e : α → PyData) (f : β → PyData) (xs : List α) (ys : List β) : zipD (xs.map e) (ys.map f) = (zipI xs ys).map (eP2 true e f) := by
  unfold zipD zipI
  induction xs generalizing ys with
  | nil => rfl
  | cons x xs ih =>
    cases ys with
    | nil => rfl
    | cons y ys =>
      show _ :: List.zipWith _ (xs.map e) (ys.map f) = _ :: (xs.zip ys).map _
      rw [ih]
      rfl
section
variable {n : Nat} {Γ Γ' : Ctx} {a b : Ex} {α β γ : Type} {e : α → PyData} {f : β → PyData} {k : Bool} {xs : List α} {ys : List β}
theorem xi_seq (h : XP n Γ a (vD (eSq k e) xs)) : XI n Γ (iAnyS a) e (pure xs) := fun ρ S hρ => by
  show R.bind (a ρ S) seqOfS = _
  rw [h ρ S hρ]
  cases k <;> rfl
theorem xi_seqM {t : TM (List α)} (h : XE n Γ a (vD (eSq k e)) t) : XI n Γ (iAnyS a) e t := fun ρ S hρ => by
  have := h ρ S hρ
  show Rf _ _ (R.bind (a ρ S) seqOfS)
  cases et : t S with
  | ok x S' => rw [et] at this; rw [show a ρ S = _ from this]; cases k <;> exact rfl
  | er x S' => rw [et] at this; rw [show a ρ S = _ from this]; exact rfl
  | no => trivial
theorem okT_ty {α' β' : Type} {enc : β' → α'} {p : Prop} [Decidable p] {x : β'} {r : R α'} {S : Sto} (h : r = if p then .ok (enc x) S else .no) : Rf enc (okT (decide p) x S) r := by
  subst h
  by_cases c : p
  · rw [if_pos c, decide_eq_true c]; exact rfl
  · rw [if_neg c, decide_eq_false c]; exact trivial
theorem rng1_ty (j : Int) (S : Sto) : Rf (fun xs => xs.map PyData.int) (rangeT j S) (rng1 [.d (.int j)] S) := okT_ty (by
  show (if -1000000 ≤ j ∧ j ≤ 1000000 then R.ok (rangeL 0 j.toNat) S else R.no) = _
  rw [rangeL_eq])
theorem rng2_ty (i j : Int) (S : Sto) : Rf (fun xs => xs.map PyData.int) (rangeT2 i j S) (rng2 [.d (.int i), .d (.int j)] S) := okT_ty (by
  show (if -1000000 ≤ i ∧ i ≤ 1000000 ∧ -1000000 ≤ j ∧ j ≤ 1000000 then R.ok (rangeL i (j - i).toNat) S else R.no) = _
  rw [rangeL_eq])
theorem xi_args1P {g : List Vl → M (List PyData)} {t : TM (List γ)} {e' : γ → PyData} {v : Vl} (h : XP n Γ a v) (hg : ∀ S, Rf (fun xs => xs.map e') (t S) (g [v] S)) : XI n Γ (iArgs g (asCons a asNil)) e' t := fun ρ S hρ => by
  show Rf _ _ (R.bind (R.bind (a ρ S) _) g)
  rw [h ρ S hρ]
  exact hg S
theorem xi_args1 {g : List Vl → M (List PyData)} {t : TM α} {k : α → TM (List γ)} {enc : α → Vl} {e' : γ → PyData} (h : XE n Γ a enc t) (hg : ∀ x S, Rf (fun xs => xs.map e') (k x S) (g [enc x] S)) : XI n Γ (iArgs g (asCons a asNil)) e' (t >>= k) := fun ρ S hρ => by
  show Rf _ _ (R.bind (R.bind (a ρ S) _) g)
  rw [bind_assocR]
  exact Rf.bind (h ρ S hρ) fun x S1 => hg x S1
theorem xi_args2P {g : List Vl → M (List PyData)} {t : TM (List γ)} {e' : γ → PyData} {v w : Vl} (h : XP n Γ a v) (h2 : XP n Γ b w) (hg : ∀ S, Rf (fun xs => xs.map e') (t S) (g [v, w] S)) : XI n Γ (iArgs g (asCons a (asCons b asNil))) e' t := fun ρ S hρ => by
  show Rf _ _ (R.bind (R.bind (a ρ S) _) g)
  rw [h ρ S hρ]
  show Rf _ _ (R.bind (R.bind (R.bind (b ρ S) _) _) g)
  rw [h2 ρ S hρ]
  exact hg S
theorem xi_args2 {δ : Type} {g : List Vl → M (List PyData)} {t : TM α} {t2 : TM β} {k : α → β → TM (List γ)} {enc : α → Vl} {enc2 : β → Vl} {e' : γ → PyData} (h : XE n Γ a enc t) (h2 : XE n Γ b enc2 t2) (hg : ∀ x y S, Rf (fun xs => xs.map e') (k x y S) (g [enc x, enc2 y] S)) : XI n Γ (iArgs g (asCons a (asCons b asNil))) e' (t >>= fun x => t2 >>= fun y => k x y) := fun ρ S hρ => by
  show Rf _ _ (R.bind (R.bind (a ρ S) _) g)
  rw [bind_assocR]
  refine Rf.bind (h ρ S hρ) fun x S1 => ?_
  show Rf _ _ (R.bind (R.bind (R.bind (b ρ S1) _) _) g)
  rw [bind_assocR, bind_assocR]
  exact Rf.bind (h2 ρ S1 hρ) fun y S2 => hg x y S2
theorem xi_range1 {j : Int} (h : XP n Γ a (vD PyData.int j)) : XI n Γ (iArgs rng1 (asCons a asNil)) PyData.int (rangeT j) := xi_args1P h (rng1_ty j)
theorem xi_range1M {t : TM Int} (h : XE n Γ a (vD PyData.int) t) : XI n Γ (iArgs rng1 (asCons a asNil)) PyData.int (t >>= rangeT) := xi_args1 h rng1_ty
theorem xi_range2 {i j : Int} (h : XP n Γ a (vD PyData.int i)) (h2 : XP n Γ b (vD PyData.int j)) : XI n Γ (iArgs rng2 (asCons a (asCons b asNil))) PyData.int (rangeT2 i j) := xi_args2P h h2 (rng2_ty i j)
theorem xi_enum (h : XP n Γ a (vD (eSq k e) xs)) : XI n Γ (iArgs enumS (asCons a asNil)) (eP2 true PyData.int e) (pure (enumI xs)) := xi_args1P h fun S => by
  cases k
  · show enumS [.d (.list (xs.map e))] S = _
    show R.ok (enumD (xs.map e)) S = _
    rw [enumD_eq]
  · show enumS [.d (.tuple (xs.map e))] S = _
    show R.ok (enumD (xs.map e)) S = _
    rw [enumD_eq]
theorem xi_zip (h : XP n Γ a (vD (eSq k e) xs)) (h2 : XP n Γ b (vD (eSq k f) ys)) : XI n Γ (iArgs zip2 (asCons a (asCons b asNil))) (eP2 true e f) (pure (zipI xs ys)) := xi_args2P h h2 fun S => by
  cases k
  · show zip2 [.d (.list (xs.map e)), .d (.list (ys.map f))] S = _
    show R.ok (zipD (xs.map e) (ys.map f)) S = _
    rw [zipD_eq]
  · show zip2 [.d (.tuple (xs.map e)), .d (.tuple (ys.map f))] S = _
    show R.ok (zipD (xs.map e) (ys.map f)) S = _
    rw [zipD_eq]

/-! ## comprehensions -/
def TM.quiet {α : Type} (m : TM α) : TM α := fun S => (m S).quiet
@[simp] theorem quiet_pure {α : Type} (a : α) : (pure a : TM α).quiet = pure a := rfl
def compM (tt : α → TM Bool) (te : α → TM β) : List α → TM (List β)
  | [] => pure []
  | x :: xs => (tt x).quiet >>= fun c => if c then ((te x).quiet >>= fun y => compM tt te xs >>= fun ys => pure (y :: ys)) else compM tt te xs
def compM2 (tt : α → TM Bool) (te : α → TM (List β)) : List α → TM (List β)
  | [] => pure []
  | x :: xs => (tt x).quiet >>= fun c => if c then ((te x).quiet >>= fun ys => compM2 tt te xs >>= fun zs => pure (ys ++ zs)) else compM2 tt te xs
theorem compM_pure (p : α → Bool) (g : α → β) : ∀ xs : List α, compM (fun x => pure (p x)) (fun x => pure (g x)) xs = pure ((xs.filter p).map g)
  | [] => rfl
  | x :: xs => by
    unfold compM
    rw [compM_pure p g xs]
    cases h : p x with
    | true => rw [List.filter_cons_of_pos h]; simp
    | false => rw [List.filter_cons_of_neg (by simp [h])]; simp
/-- what refines, with errors lost -/
def Rq {α β : Type} (enc : β → α) : R β → R α → Prop
  | .ok x S', r => r = .ok (enc x) S'
  | _, _ => True
theorem Rf.q {α β : Type} {enc : β → α} {t : R β} {r : R α} (h : Rf enc t r) : Rq enc t.quiet r := by
  cases t with
  | ok x S => exact h
  | er _ _ => trivial
  | no => trivial
variable {pt pt1 : Tg} {fi fi1 : Ix} {tt tt1 : Env → M Bool} {elt : Ex} {vs vs1 : List Nat} {G : α → Ctx} {e1' : γ → PyData}
/-- no error comes out -/
def NoEr {α : Type} (t : TM α) : Prop := ∀ S e S', t S ≠ .er e S'
theorem quiet_no {t : TM α} : NoEr t.quiet := fun S e S' h => by
  unfold TM.quiet R.quiet at h
  split at h <;> first | cases h | (rename_i h2; exact h2 _ _ h)
theorem bind_no {t : TM α} {g : α → TM β} (h : NoEr t) (k : ∀ x, NoEr (g x)) : NoEr (t >>= g) := fun S e S' z => by
  rw [tm_bind] at z
  cases et : t S with
  | ok x S1 => rw [et] at z; exact k x S1 e S' z
  | er x S1 => exact h S x S1 et
  | no => rw [et] at z; cases z
theorem pure_no {x : α} : NoEr (pure x : TM α) := fun S e S' z => by cases z
theorem compM_no (tt : α → TM Bool) (te : α → TM β) : ∀ xs : List α, NoEr (compM tt te xs)
  | [] => pure_no
  | x :: xs => by
    unfold compM
    refine bind_no quiet_no fun c => ?_
    cases c
    · exact compM_no tt te xs
    · exact bind_no quiet_no fun y => bind_no (compM_no tt te xs) fun ys => pure_no
theorem compM2_no (tt : α → TM Bool) (te : α → TM (List β)) : ∀ xs : List α, NoEr (compM2 tt te xs)
  | [] => pure_no
  | x :: xs => by
    unfold compM2
    refine bind_no quiet_no fun c => ?_
    cases c
    · exact compM2_no tt te xs
    · exact bind_no quiet_no fun y => bind_no (compM2_no tt te xs) fun ys => pure_no
theorem cL_ty {ρ : Env} (tt' : α → TM Bool) (te : α → TM β) (hρ : Ag n Γ ρ) (hw : SubW vs Γ' Γ) (hg : ∀ x, TG n pt (e x) (G x)) (ht : ∀ x, XT n (G x ++ Γ') tt (tt' x)) (he : ∀ x, XE n (G x ++ Γ') elt (vD f) (te x)) :
    ∀ (xs : List α) (S : Sto), Rf (fun ys => ys.map f) (compM tt' te xs S) (cL pt tt elt vs ρ (xs.map e) S)
  | [], S => rfl
  | x :: xs, S => by
    have ih := cL_ty tt' te hρ hw hg ht he xs
    obtain ⟨ρ1, e1, a1⟩ := hg x Γ' _ (hρ.wipe hw)
    show Rf _ (R.bind ((tt' x).quiet S) _) _
    rw [List.map_cons]
    unfold cL
    rw [e1]
    dsimp only
    have h1 := ht x ρ1 S a1
    show Rf _ (R.bind ((tt' x S).quiet) _) _
    cases e2 : tt' x S with
    | no => trivial
    | er _ _ => trivial
    | ok c S1 =>
      rw [e2] at h1
      rw [show tt ρ1 S = _ from h1]
      cases c with
      | false => exact ih S1
      | true =>
        show Rf _ (R.bind ((te x S1).quiet) _) _
        have h2 := he x ρ1 S1 a1
        cases e3 : te x S1 with
        | no => trivial
        | er _ _ => trivial
        | ok y S2 =>
          rw [e3] at h2
          dsimp only [id]
          rw [show elt ρ1 S1 = _ from h2]
          show Rf _ (R.bind (compM tt' te xs S2) _) (consD (cL pt tt elt vs ρ (xs.map e) S2) (f y))
          have h3 := ih S2
          cases e4 : compM tt' te xs S2 with
          | no => trivial
          | er q S3 => exact absurd e4 (compM_no _ _ _ _ _ _)
          | ok ys S3 => rw [e4] at h3; rw [show cL pt tt elt vs ρ (xs.map e) S2 = _ from h3]; exact rfl
theorem lim_ty {t : TM (List β)} (hn : NoEr t) {r : R (List PyData)} {S : Sto} (h : Rf (fun ys => ys.map f) (t S) r) : Rf (vD (eSq false f)) ((t >>= limT) S) (lim r) := by
  rw [tm_bind]
  cases et : t S with
  | no => trivial
  | er e S' => exact absurd et (hn _ _ _)
  | ok ys S1 =>
    rw [et] at h
    rw [show r = _ from h]
    refine okT_ty ?_
    show (if (ys.map f).length ≤ big then _ else _) = _
    rw [List.length_map]
    rfl
theorem x_comp {ti : TM (List α)} {tt' : α → TM Bool} {te : α → TM β} (hi : XI n Γ fi e ti) (hw : SubW vs Γ' Γ) (hg : ∀ x, TG n pt (e x) (G x)) (ht : ∀ x, XT n (G x ++ Γ') tt (tt' x)) (he : ∀ x, XE n (G x ++ Γ') elt (vD f) (te x)) :
    XE n Γ (eComp pt fi tt elt vs) (vD (eSq false f)) (ti >>= fun xs => compM tt' te xs >>= limT) := fun ρ S hρ =>
  Rf.bind (hi ρ S hρ) fun xs S1 => lim_ty (compM_no _ _ _) (cL_ty tt' te hρ hw hg ht he xs S1)
theorem x_compP {ti : TM (List α)} {p : α → Bool} {g : α → β} (hi : XI n Γ fi e ti) (hw : SubW vs Γ' Γ) (hg : ∀ x, TG n pt (e x) (G x)) (ht : ∀ x, XTP n (G x ++ Γ') tt (p x)) (he : ∀ x, XP n (G x ++ Γ') elt (vD f (g x))) :
    XE n Γ (eComp pt fi tt elt vs) (vD (eSq false f)) (ti >>= fun xs => limT ((xs.filter p).map g)) := fun ρ S hρ => by
  have := x_comp (te := fun x => pure (g x)) hi hw hg (fun x => (ht x).xt) (fun x => (he x).xe) ρ S hρ
  simp only [compM_pure, pure_bind] at this
  exact this
theorem yes_ty : XTP n Γ yesT true := fun _ _ _ => rfl
theorem x_compP0 {ti : TM (List α)} {g : α → β} (hi : XI n Γ fi e ti) (hw : SubW vs Γ' Γ) (hg : ∀ x, TG n pt (e x) (G x)) (he : ∀ x, XP n (G x ++ Γ') elt (vD f (g x))) :
    XE n Γ (eComp pt fi yesT elt vs) (vD (eSq false f)) (ti >>= fun xs => limT (xs.map g)) := fun ρ S hρ => by
  have := x_compP (p := fun _ => true) hi hw hg (fun x => yes_ty) he ρ S hρ
  simpa only [filter_yes'] using this
where filter_yes' {β : Type} (xs : List β) : xs.filter (fun _ => true) = xs := List.filter_eq_self.mpr fun _ _ => rfl
theorem x_comp0 {ti : TM (List α)} {te : α → TM β} (hi : XI n Γ fi e ti) (hw : SubW vs Γ' Γ) (hg : ∀ x, TG n pt (e x) (G x)) (he : ∀ x, XE n (G x ++ Γ') elt (vD f) (te x)) :
    XE n Γ (eComp pt fi yesT elt vs) (vD (eSq false f)) (ti >>= fun xs => compM (fun _ => pure true) te xs >>= limT) := x_comp hi hw hg (fun x => yes_ty.xt) he
variable {Γ1 : α → Ctx} {G1 : α → γ → Ctx}
theorem cL2_ty {ρ : Env} (tt' : α → TM Bool) (ti1 : α → TM (List γ)) (tt1' : α → γ → TM Bool) (te : α → γ → TM β) (hρ : Ag n Γ ρ) (hw : SubW vs Γ' Γ) (hg : ∀ x, TG n pt (e x) (G x)) (ht : ∀ x, XT n (G x ++ Γ') tt (tt' x)) (hi1 : ∀ x, XI n (G x ++ Γ') fi1 e1' (ti1 x)) (hw1 : ∀ x, SubW vs1 (Γ1 x) (G x ++ Γ')) (hg1 : ∀ x y, TG n pt1 (e1' y) (G1 x y)) (ht1 : ∀ x y, XT n (G1 x y ++ Γ1 x) tt1 (tt1' x y)) (he : ∀ x y, XE n (G1 x y ++ Γ1 x) elt (vD f) (te x y)) :
    ∀ (xs : List α) (S : Sto), Rf (fun ys => ys.map f) (compM2 tt' (fun x => ti1 x >>= fun ys => compM (tt1' x) (te x) ys) xs S) (cL2 pt tt fi1 pt1 tt1 elt vs vs1 ρ (xs.map e) S)
  | [], S => rfl
  | x :: xs, S => by
    have ih := cL2_ty tt' ti1 tt1' te hρ hw hg ht hi1 hw1 hg1 ht1 he xs
    obtain ⟨ρ1, e1, a1⟩ := hg x Γ' _ (hρ.wipe hw)
    show Rf _ (R.bind ((tt' x).quiet S) _) _
    rw [List.map_cons]
    unfold cL2
    rw [e1]
    dsimp only
    have h1 := ht x ρ1 S a1
    show Rf _ (R.bind ((tt' x S).quiet) _) _
    cases e2 : tt' x S with
    | no => trivial
    | er _ _ => trivial
    | ok c S1 =>
      rw [e2] at h1
      rw [show tt ρ1 S = _ from h1]
      cases c with
      | false => exact ih S1
      | true =>
        show Rf _ (R.bind ((R.bind (ti1 x S1) fun ys => compM (tt1' x) (te x) ys).quiet) _) _
        have h2 := hi1 x ρ1 S1 a1
        cases e3 : ti1 x S1 with
        | no => trivial
        | er _ _ => trivial
        | ok ys S2 =>
          rw [e3] at h2
          dsimp only [id]
          rw [show fi1 ρ1 S1 = _ from h2]
          have h3 := cL_ty (tt1' x) (te x) a1 (hw1 x) (hg1 x) (ht1 x) (he x) ys S2
          show Rf _ (R.bind ((compM (tt1' x) (te x) ys S2).quiet) _) _
          dsimp only
          cases e4 : compM (tt1' x) (te x) ys S2 with
          | no => trivial
          | er q S3 => trivial
          | ok zs S3 =>
            rw [e4] at h3
            rw [show cL pt1 tt1 elt vs1 ρ1 (ys.map e1') S2 = _ from h3]
            have h4 := ih S3
            show Rf _ (R.bind (compM2 tt' _ xs S3) _) (appD (cL2 pt tt fi1 pt1 tt1 elt vs vs1 ρ (xs.map e) S3) (zs.map f))
            cases e5 : compM2 tt' (fun x => ti1 x >>= fun ys => compM (tt1' x) (te x) ys) xs S3 with
            | no => trivial
            | er q S4 => exact absurd e5 (compM2_no _ _ _ _ _ _)
            | ok us S4 =>
              rw [e5] at h4
              rw [show cL2 pt tt fi1 pt1 tt1 elt vs vs1 ρ (xs.map e) S3 = _ from h4]
              show R.ok (zs.map f ++ us.map f) S4 = .ok ((zs ++ us).map f) S4
              rw [List.map_append]
theorem x_comp2 {ti : TM (List α)} {tt' : α → TM Bool} {ti1 : α → TM (List γ)} {tt1' : α → γ → TM Bool} {te : α → γ → TM β} (hi : XI n Γ fi e ti) (hw : SubW vs Γ' Γ) (hg : ∀ x, TG n pt (e x) (G x)) (ht : ∀ x, XT n (G x ++ Γ') tt (tt' x)) (hi1 : ∀ x, XI n (G x ++ Γ') fi1 e1' (ti1 x)) (hw1 : ∀ x, SubW vs1 (Γ1 x) (G x ++ Γ')) (hg1 : ∀ x y, TG n pt1 (e1' y) (G1 x y)) (ht1 : ∀ x y, XT n (G1 x y ++ Γ1 x) tt1 (tt1' x y)) (he : ∀ x y, XE n (G1 x y ++ Γ1 x) elt (vD f) (te x y)) :
    XE n Γ (eComp2 pt fi tt fi1 pt1 tt1 elt vs vs1) (vD (eSq false f)) (ti >>= fun xs => compM2 tt' (fun x => ti1 x >>= fun ys => compM (tt1' x) (te x) ys) xs >>= limT) := fun ρ S hρ =>
  Rf.bind (hi ρ S hρ) fun xs S1 => lim_ty (compM2_no _ _ _) (cL2_ty tt' ti1 tt1' te hρ hw hg ht hi1 hw1 hg1 ht1 he xs S1)
end
end Sm

set_option maxHeartbeats 4000000
namespace Sm
open PySem PySem.Spec PyProof.Rows L2 Lf

/-! ## blocks -/
inductive Fl (σ γ : Type) where
  | nx (s : σ)
  | rt (x : γ)
def flE {σ γ τ : Type} (o : Fl σ γ) (k : σ → TM τ) (r : γ → TM τ) : TM τ := match o with
  | .nx s => k s
  | .rt x => r x
abbrev Ph (τ : Type) := R τ → Option (Out × Env × Sto) → Prop
structure Gd {τ : Type} (Φ : Ph τ) : Prop where
  no : ∀ r, Φ .no r
  er : ∀ e S' ρ', Φ (.er e S') (some (.er e, ρ', S'))
/-- to the def's end -/
def ΦT {β : Type} (enc : β → Vl) : Ph β
  | .ok x S', r => (∃ ρ' v, r = some (.rt v, ρ', S') ∧ retV v = enc x) ∨ (∃ ρ', r = some (.nx, ρ', S') ∧ enc x = .d .none)
  | .er e S', r => ∃ ρ', r = some (.er e, ρ', S')
  | .no, _ => True
/-- to the block's end -/
def ΦQ {σ : Type} (n : Nat) (Δ : σ → Ctx) : Ph σ
  | .ok s S', r => ∃ ρ', r = some (.nx, ρ', S') ∧ Ag n (Δ s) ρ'
  | .er e S', r => ∃ ρ', r = some (.er e, ρ', S')
  | .no, _ => True
/-- to the block's or the def's end -/
def ΦF {σ γ : Type} (n : Nat) (Δ : σ → Ctx) (enc : γ → Vl) : Ph (Fl σ γ)
  | .ok (.nx s) S', r => ∃ ρ', r = some (.nx, ρ', S') ∧ Ag n (Δ s) ρ'
  | .ok (.rt x) S', r => ∃ ρ' v, r = some (.rt v, ρ', S') ∧ retV v = enc x
  | .er e S', r => ∃ ρ', r = some (.er e, ρ', S')
  | .no, _ => True
theorem gdT {β : Type} {enc : β → Vl} : Gd (ΦT enc) := ⟨fun _ => trivial, fun e S ρ => ⟨ρ, rfl⟩⟩
theorem gdQ {σ : Type} {n : Nat} {Δ : σ → Ctx} : Gd (ΦQ n Δ) := ⟨fun _ => trivial, fun e S ρ => ⟨ρ, rfl⟩⟩
theorem gdF {σ γ : Type} {n : Nat} {Δ : σ → Ctx} {enc : γ → Vl} : Gd (ΦF n Δ enc) := ⟨fun _ => trivial, fun e S ρ => ⟨ρ, rfl⟩⟩
def Blk {τ : Type} (n : Nat) (Γ : Ctx) (b : Sx) (Φ : Ph τ) (t : TM τ) : Prop := ∀ ρ S, Ag n Γ ρ → Φ (t S) (b ρ S)
def forT {α σ : Type} : List α → σ → (α → σ → TM σ) → TM σ
  | [], s, _ => pure s
  | x :: xs, s, f => f x s >>= fun s' => forT xs s' f
def forF {α σ γ : Type} : List α → σ → (α → σ → TM (Fl σ γ)) → TM (Fl σ γ)
  | [], s, _ => pure (.nx s)
  | x :: xs, s, f => f x s >>= fun o => match o with
    | .nx s' => forF xs s' f
    | .rt y => pure (.rt y)
def whileT {σ : Type} : Nat → σ → (σ → TM Bool) → (σ → TM σ) → TM σ
  | 0, _, _, _ => TM.fail
  | k + 1, s, c, f => c s >>= fun b => if b then f s >>= fun s' => whileT k s' c f else pure s
/-! dicts as lists -/
def putL {κ α : Type} [DecidableEq κ] (m : List (κ × α)) (k : κ) (v : α) : List (κ × α) := if m.any (fun p => decide (p.1 = k)) = true then m.map (fun p => if p.1 = k then (p.1, v) else p) else m ++ [(k, v)]
def getL {κ α : Type} [DecidableEq κ] (m : List (κ × α)) (k : κ) : Option α := (m.find? fun p => decide (p.1 = k)).map (·.2)
def KeyE {κ : Type} (t : Bool) (ek : κ → PyData) : Prop := match t with
  | false => ∃ dk : κ → Key, (∀ x, keyOf (ek x) = some (dk x)) ∧ ∀ x y, dk x = dk y → x = y
  | true => ∃ dk : κ → List Key, (∀ x, keyTOf (ek x) = some (dk x)) ∧ ∀ x y, dk x = dk y → x = y
section
variable {κ α : Type} [DecidableEq κ] {ek : κ → PyData} {e : α → PyData}
theorem putD_map {κ' : Type} [DecidableEq κ'] (dk : κ → κ') (hi : ∀ x y, dk x = dk y → x = y) (m : List (κ × α)) (k : κ) (v : α) : putD (m.map fun p => (dk p.1, e p.2)) (dk k) (e v) = (putL m k v).map fun p => (dk p.1, e p.2) := by
  have hany : (m.map fun p => (dk p.1, e p.2)).any (fun p => decide (p.1 = dk k)) = m.any fun p => decide (p.1 = k) := by
    rw [List.any_map]
    congr 1
    funext p
    show decide (dk p.1 = dk k) = _
    by_cases h : p.1 = k
    · rw [h]; simp
    · rw [decide_eq_false h, decide_eq_false fun z => h (hi _ _ z)]
  unfold putD putL
  rw [hany]
  split
  · rw [List.map_map, List.map_map]
    refine List.map_congr_left fun p _ => ?_
    show (if dk p.1 = dk k then (dk p.1, e v) else (dk p.1, e p.2)) = _
    by_cases h : p.1 = k
    · rw [if_pos (by rw [h])]; simp [h]
    · rw [if_neg fun z => h (hi _ _ z)]; simp [h]
  · rw [List.map_append]; rfl
theorem valD_map {κ' : Type} [DecidableEq κ'] (dk : κ → κ') (hi : ∀ x y, dk x = dk y → x = y) (m : List (κ × α)) (k : κ) : valD (m.map fun p => (dk p.1, e p.2)) (dk k) = (getL m k).map e := by
  unfold valD getL
  induction m with
  | nil => rfl
  | cons p m ih =>
    rw [List.map_cons, List.find?_cons, List.find?_cons]
    by_cases h : p.1 = k
    · simp [h]
    · simp [h, show ¬ dk p.1 = dk k from fun z => h (hi _ _ z)]
      simpa using ih
theorem decK_map {dk : κ → Key} (h : ∀ x, keyOf (ek x) = some (dk x)) : ∀ m : List (κ × α), decK (m.map fun p => (ek p.1, e p.2)) = some (m.map fun p => (dk p.1, e p.2))
  | [] => rfl
  | p :: m => by
    rw [List.map_cons]
    unfold decK
    rw [h, decK_map h m]
    rfl
theorem decT_map {dk : κ → List Key} (h : ∀ x, keyTOf (ek x) = some (dk x)) : ∀ m : List (κ × α), decT (m.map fun p => (ek p.1, e p.2)) = some (m.map fun p => (dk p.1, e p.2))
  | [] => rfl
  | p :: m => by
    rw [List.map_cons]
    unfold decT
    rw [h, decT_map h m]
    rfl
theorem keyOf_tup {ds : List PyData} : keyOf (.tuple ds) = none := rfl
theorem keyTOf_key {d : PyData} {k : List Key} (h : keyTOf d = some k) : keyOf d = none := by
  cases d with
  | tuple ds => rfl
  | _ => cases h
theorem putP_ty {t : Bool} (hk : KeyE t ek) (m : List (κ × α)) (k : κ) (v : α) : putP t (m.map fun p => (ek p.1, e p.2)) (ek k) (e v) = if m.length ≤ big then some ((putL m k v).map fun p => (ek p.1, e p.2)) else none := by
  cases t with
  | false =>
    obtain ⟨dk, h1, h2⟩ := hk
    unfold putP
    dsimp only
    rw [h1, decK_map h1]
    dsimp only
    rw [putD_map dk h2, List.length_map]
    have : encK ((putL m k v).map fun p => (dk p.1, e p.2)) = (putL m k v).map fun p => (ek p.1, e p.2) := by
      unfold encK
      rw [List.map_map]
      refine List.map_congr_left fun p _ => ?_
      show (kD (dk p.1), e p.2) = _
      rw [← keyOf_eq (h1 p.1)]
    rw [this]
  | true =>
    obtain ⟨dk, h1, h2⟩ := hk
    unfold putP
    dsimp only
    rw [h1, decT_map h1]
    dsimp only
    rw [putD_map dk h2, List.length_map]
    have : encT ((putL m k v).map fun p => (dk p.1, e p.2)) = (putL m k v).map fun p => (ek p.1, e p.2) := by
      unfold encT
      rw [List.map_map]
      refine List.map_congr_left fun p _ => ?_
      show (tD (dk p.1), e p.2) = _
      rw [← keyTOf_eq (h1 p.1)]
    rw [this]
theorem hasP_ty {t : Bool} (hk : KeyE t ek) (m : List (κ × α)) (k : κ) : hasP t (m.map fun p => (ek p.1, e p.2)) (ek k) = some (getL m k).isSome := by
  cases t with
  | false =>
    obtain ⟨dk, h1, h2⟩ := hk
    unfold hasP
    dsimp only
    rw [h1, decK_map h1]
    dsimp only
    rw [valD_map dk h2, Option.isSome_map]
  | true =>
    obtain ⟨dk, h1, h2⟩ := hk
    unfold hasP
    dsimp only
    rw [h1, decT_map h1]
    dsimp only
    rw [valD_map dk h2, Option.isSome_map]
theorem lookP_ty {t : Bool} (hk : KeyE t ek) (m : List (κ × α)) (k : κ) : lookP (m.map fun p => (ek p.1, e p.2)) (ek k) = (getL m k).map e := by
  cases t with
  | false =>
    obtain ⟨dk, h1, h2⟩ := hk
    unfold lookP
    rw [h1]
    dsimp only
    rw [decK_map h1]
    dsimp only
    rw [valD_map dk h2]
  | true =>
    obtain ⟨dk, h1, h2⟩ := hk
    unfold lookP
    rw [keyTOf_key (h1 k)]
    dsimp only
    rw [h1, decT_map h1]
    dsimp only
    rw [valD_map dk h2]
end
section
variable {n i j l : Nat} {Γ : Ctx} {τ σ α β γ : Type} {Φ : Ph τ} {e e' e'' : Ex} {r a b s1 s2 s3 : Sx} {t ta tb : TM τ}
theorem sE_ok' {x : Vl} {S : Sto} {ρ : Env} {k : Vl → Sto → Option (Out × Env × Sto)} : sE (.ok x S) ρ k = k x S := rfl
theorem blk_e {enc : β → Vl} {te : TM β} {k : β → TM τ} {st : Env → Vl → Sto → Option (Out × Env × Sto)} (g : Gd Φ) (he : XE n Γ e enc te) {ρ : Env} {S : Sto} (hρ : Ag n Γ ρ)
    (h : ∀ x S', Φ (k x S') (match st ρ (enc x) S' with
      | some (.nx, ρ', S') => r ρ' S'
      | some q => some q
      | none => none)) : Φ ((te >>= k) S) (sSeq (fun ρ S => sE (e ρ S) ρ (st ρ)) r ρ S) := by
  have := he ρ S hρ
  rw [tm_bind]
  unfold sSeq
  show Φ _ (match sE (e ρ S) ρ (st ρ) with | some (.nx, ρ', S') => r ρ' S' | some q => some q | none => none)
  cases et : te S with
  | ok x S' => rw [et] at this; rw [show e ρ S = _ from this, sE_ok']; exact h x S'
  | er x S' => rw [et] at this; rw [show e ρ S = _ from this]; exact g.er _ _ _
  | no => exact g.no _
theorem b_set {enc : β → PyData} {te : TM β} {k : β → TM τ} (g : Gd Φ) (hi : i < n) (he : XE n Γ e (vD enc) te) (h : ∀ x, Blk n ((i, vD enc x) :: Γ) r Φ (k x)) : Blk n Γ (sSeq (sSet i e) r) Φ (te >>= k) := fun ρ S hρ =>
  blk_e (st := fun ρ x S1 => if notO x then some (.nx, ρ.set i (some x), S1) else none) g he hρ fun x S' => h x _ S' (hρ.set hi)
theorem b_setP {d : PyData} (hi : i < n) (he : XP n Γ e (.d d)) (h : Blk n ((i, .d d) :: Γ) r Φ t) : Blk n Γ (sSeq (sSet i e) r) Φ t := fun ρ S hρ => by
  have := h _ S (hρ.set hi)
  unfold sSeq sSet
  rw [he ρ S hρ]
  exact this
theorem b_last (h : Blk n Γ (sSeq a sNil) Φ t) : Blk n Γ a Φ t := fun ρ S hρ => by
  have := h ρ S hρ
  unfold sSeq at this
  cases e : a ρ S with
  | none => rw [e] at this; exact this
  | some q =>
    obtain ⟨o, ρ', S'⟩ := q
    rw [e] at this
    cases o <;> exact this
theorem b_nilseq (h : Blk n Γ r Φ t) : Blk n Γ (sSeq sNil r) Φ t := h
theorem b_assoc (h : Blk n Γ (sSeq s1 (sSeq s2 s3)) Φ t) : Blk n Γ (sSeq (sSeq s1 s2) s3) Φ t := fun ρ S hρ => by
  have := h ρ S hρ
  unfold sSeq at this ⊢
  cases e : s1 ρ S with
  | none => rw [e] at this; exact this
  | some q =>
    obtain ⟨o, ρ', S'⟩ := q
    rw [e] at this
    cases o <;> exact this
theorem b_retT {encE enc : β → Vl} {te : TM β} (he : XE n Γ e encE te) (hv : ∀ x, retV (encE x) = enc x) : Blk n Γ (sSeq (sRet e) r) (ΦT enc) te := fun ρ S hρ => by
  have := he ρ S hρ
  unfold sSeq sRet
  cases et : te S with
  | ok x S' => rw [et] at this; rw [show e ρ S = _ from this]; exact .inl ⟨ρ, _, rfl, hv x⟩
  | er x S' => rw [et] at this; rw [show e ρ S = _ from this]; exact ⟨ρ, rfl⟩
  | no => trivial
theorem b_retTP {v : Vl} {enc : β → Vl} {x : β} (he : XP n Γ e v) (hv : retV v = enc x) : Blk n Γ (sSeq (sRet e) r) (ΦT enc) (pure x) := fun ρ S hρ => by
  unfold sSeq sRet
  rw [he ρ S hρ]
  exact .inl ⟨ρ, _, rfl, hv⟩
theorem b_retF {Δ : σ → Ctx} {encE enc : β → Vl} {te : TM β} (he : XE n Γ e encE te) (hv : ∀ x, retV (encE x) = enc x) : Blk n Γ (sSeq (sRet e) r) (ΦF n Δ enc) (te >>= fun x => pure (.rt x)) := fun ρ S hρ => by
  have := he ρ S hρ
  rw [tm_bind]
  unfold sSeq sRet
  cases et : te S with
  | ok x S' => rw [et] at this; rw [show e ρ S = _ from this]; exact ⟨ρ, _, rfl, hv x⟩
  | er x S' => rw [et] at this; rw [show e ρ S = _ from this]; exact ⟨ρ, rfl⟩
  | no => trivial
theorem b_retFP {Δ : σ → Ctx} {v : Vl} {enc : β → Vl} {x : β} (he : XP n Γ e v) (hv : retV v = enc x) : Blk n Γ (sSeq (sRet e) r) (ΦF n Δ enc) (pure (.rt x)) := fun ρ S hρ => by
  unfold sSeq sRet
  rw [he ρ S hρ]
  exact ⟨ρ, _, rfl, hv⟩
theorem b_endQ {Δ : σ → Ctx} {s : σ} (h : SubC (Δ s) Γ) : Blk n Γ sNil (ΦQ n Δ) (pure s) := fun ρ S hρ => ⟨ρ, rfl, hρ.sub h⟩
theorem b_endF {Δ : σ → Ctx} {enc : γ → Vl} {s : σ} (h : SubC (Δ s) Γ) : Blk n Γ sNil (ΦF n Δ enc) (pure (.nx s)) := fun ρ S hρ => ⟨ρ, rfl, hρ.sub h⟩
theorem b_endT {enc : β → Vl} {x : β} (h : enc x = .d .none) : Blk n Γ sNil (ΦT enc) (pure x) := fun ρ S hρ => .inr ⟨ρ, rfl, h⟩
theorem b_stuck : Gd Φ → Blk n Γ (sSeq sStuck r) Φ TM.fail := fun g ρ S hρ => g.no _
theorem b_test {c : Env → M Bool} {tc : TM Bool} {k : Bool → TM τ} (g : Gd Φ) (hc : XT n Γ c tc) (hk : ∀ x, Blk n Γ (sSeq (if x then a else b) r) Φ (k x)) : Blk n Γ (sSeq (sIf c a b) r) Φ (tc >>= k) := fun ρ S hρ => by
  have := hc ρ S hρ
  rw [tm_bind]
  unfold sSeq sIf
  cases et : tc S with
  | ok x S' =>
    rw [et] at this
    rw [show c ρ S = _ from this]
    have h2 := hk x ρ S' hρ
    cases x <;> exact h2
  | er x S' => rw [et] at this; rw [show c ρ S = _ from this]; exact g.er _ _ _
  | no => exact g.no _
theorem b_ifR {c : Env → M Bool} {tc : TM Bool} (g : Gd Φ) (hc : XT n Γ c tc) (ha : Blk n Γ (sSeq a r) Φ ta) (hb : Blk n Γ (sSeq b r) Φ tb) : Blk n Γ (sSeq (sIf c a b) r) Φ (tc >>= fun x => if x then ta else tb) :=
  b_test g hc fun x => by cases x; exact hb; exact ha
theorem b_ifRP {c : Env → M Bool} {p : Bool} (hc : XTP n Γ c p) (ha : Blk n Γ (sSeq a r) Φ ta) (hb : Blk n Γ (sSeq b r) Φ tb) : Blk n Γ (sSeq (sIf c a b) r) Φ (if p then ta else tb) := fun ρ S hρ => by
  have h := hc ρ S hρ
  unfold sSeq sIf
  rw [h]
  cases p
  · exact hb ρ S hρ
  · exact ha ρ S hρ
/-- a quiet piece, then the rest -/
theorem b_q {Δ : σ → Ctx} {tq : TM σ} {k : σ → TM τ} (g : Gd Φ) (ha : Blk n Γ a (ΦQ n Δ) tq) (h : ∀ s, Blk n (Δ s) r Φ (k s)) : Blk n Γ (sSeq a r) Φ (tq >>= k) := fun ρ S hρ => by
  have := ha ρ S hρ
  rw [tm_bind]
  unfold sSeq
  cases et : tq S with
  | ok x S' =>
    rw [et] at this
    obtain ⟨ρ', e, a'⟩ := this
    rw [e]
    exact h x ρ' S' a'
  | er x S' =>
    rw [et] at this
    obtain ⟨ρ', e⟩ := this
    rw [e]
    exact g.er _ _ _
  | no => exact g.no _
theorem b_if {Δ : σ → Ctx} {qa qb : TM σ} {k : σ → TM τ} {c : Env → M Bool} {tc : TM Bool} (g : Gd Φ) (hc : XT n Γ c tc) (ha : Blk n Γ a (ΦQ n Δ) qa) (hb : Blk n Γ b (ΦQ n Δ) qb) (h : ∀ s, Blk n (Δ s) r Φ (k s)) : Blk n Γ (sSeq (sIf c a b) r) Φ (tc >>= fun x => (if x then qa else qb) >>= k) :=
  b_test g hc fun x => by
    cases x
    · exact b_q g hb h
    · exact b_q g ha h
theorem b_ifP {Δ : σ → Ctx} {qa qb : TM σ} {k : σ → TM τ} {c : Env → M Bool} {p : Bool} (g : Gd Φ) (hc : XTP n Γ c p) (ha : Blk n Γ a (ΦQ n Δ) qa) (hb : Blk n Γ b (ΦQ n Δ) qb) (h : ∀ s, Blk n (Δ s) r Φ (k s)) : Blk n Γ (sSeq (sIf c a b) r) Φ ((if p then qa else qb) >>= k) := by
  have := b_ifRP (Φ := Φ) hc (b_q g ha h) (b_q g hb h)
  cases p <;> exact this
/-! loops -/
variable {pt : Tg} {fi : Ix} {encA : α → PyData} {ti : TM (List α)} {G : α → Ctx} {body : Sx}
theorem loop_ty {Δ : σ → Ctx} {tb : α → σ → TM σ} (hg : ∀ x, TG n pt (encA x) (G x)) (hb : ∀ x s, Blk n (G x ++ Δ s) body (ΦQ n Δ) (tb x s)) : ∀ (xs : List α) (s : σ) (ρ : Env) (S : Sto), Ag n (Δ s) ρ → ΦQ n Δ (forT xs s tb S) (loopS pt body (xs.map encA) ρ S)
  | [], s, ρ, S, hρ => ⟨ρ, rfl, hρ⟩
  | x :: xs, s, ρ, S, hρ => by
    obtain ⟨ρ1, e1, a1⟩ := hg x _ ρ hρ
    have h1 := hb x s ρ1 S a1
    show ΦQ n Δ (R.bind (tb x s S) _) _
    rw [List.map_cons]
    unfold loopS
    rw [e1]
    dsimp only
    cases et : tb x s S with
    | ok s' S' =>
      rw [et] at h1
      obtain ⟨ρ2, e2, a2⟩ := h1
      rw [e2]
      exact loop_ty hg hb xs s' ρ2 S' a2
    | er q S' =>
      rw [et] at h1
      obtain ⟨ρ2, e2⟩ := h1
      rw [e2]
      exact ⟨ρ2, rfl⟩
    | no => trivial
theorem for_q {Δ : σ → Ctx} {tb : α → σ → TM σ} {s0 : σ} (hi : XI n Γ fi encA ti) (h0 : SubC (Δ s0) Γ) (hg : ∀ x, TG n pt (encA x) (G x)) (hb : ∀ x s, Blk n (G x ++ Δ s) body (ΦQ n Δ) (tb x s)) : Blk n Γ (sFor pt fi body) (ΦQ n Δ) (ti >>= fun xs => forT xs s0 tb) := fun ρ S hρ => by
  have h1 := hi ρ S hρ
  rw [tm_bind]
  unfold sFor
  cases et : ti S with
  | ok xs S' => rw [et] at h1; rw [show fi ρ S = _ from h1]; exact loop_ty hg hb xs s0 ρ S' (hρ.sub h0)
  | er q S' => rw [et] at h1; rw [show fi ρ S = _ from h1]; exact ⟨ρ, rfl⟩
  | no => trivial
theorem b_for {Δ : σ → Ctx} {tb : α → σ → TM σ} {s0 : σ} {k : σ → TM τ} (g : Gd Φ) (hi : XI n Γ fi encA ti) (h0 : SubC (Δ s0) Γ) (hg : ∀ x, TG n pt (encA x) (G x)) (hb : ∀ x s, Blk n (G x ++ Δ s) body (ΦQ n Δ) (tb x s)) (h : ∀ s, Blk n (Δ s) r Φ (k s)) :
    Blk n Γ (sSeq (sFor pt fi body) r) Φ (ti >>= fun xs => forT xs s0 tb >>= k) := by
  have := b_q (Φ := Φ) g (for_q hi h0 hg hb) h
  rw [bind_assoc] at this
  exact this
theorem loopF_ty {Δ : σ → Ctx} {enc : γ → Vl} {tb : α → σ → TM (Fl σ γ)} (hg : ∀ x, TG n pt (encA x) (G x)) (hb : ∀ x s, Blk n (G x ++ Δ s) body (ΦF n Δ enc) (tb x s)) : ∀ (xs : List α) (s : σ) (ρ : Env) (S : Sto), Ag n (Δ s) ρ → ΦF n Δ enc (forF xs s tb S) (loopS pt body (xs.map encA) ρ S)
  | [], s, ρ, S, hρ => ⟨ρ, rfl, hρ⟩
  | x :: xs, s, ρ, S, hρ => by
    obtain ⟨ρ1, e1, a1⟩ := hg x _ ρ hρ
    have h1 := hb x s ρ1 S a1
    show ΦF n Δ enc (R.bind (tb x s S) _) _
    rw [List.map_cons]
    unfold loopS
    rw [e1]
    dsimp only
    cases et : tb x s S with
    | ok o S' =>
      rw [et] at h1
      cases o with
      | nx s' =>
        obtain ⟨ρ2, e2, a2⟩ := h1
        rw [e2]
        exact loopF_ty hg hb xs s' ρ2 S' a2
      | rt y =>
        obtain ⟨ρ2, v, e2, a2⟩ := h1
        rw [e2]
        exact ⟨ρ2, v, rfl, a2⟩
    | er q S' =>
      rw [et] at h1
      obtain ⟨ρ2, e2⟩ := h1
      rw [e2]
      exact ⟨ρ2, rfl⟩
    | no => trivial
theorem forF_q {Δ : σ → Ctx} {enc : γ → Vl} {tb : α → σ → TM (Fl σ γ)} {s0 : σ} (hi : XI n Γ fi encA ti) (h0 : SubC (Δ s0) Γ) (hg : ∀ x, TG n pt (encA x) (G x)) (hb : ∀ x s, Blk n (G x ++ Δ s) body (ΦF n Δ enc) (tb x s)) : Blk n Γ (sFor pt fi body) (ΦF n Δ enc) (ti >>= fun xs => forF xs s0 tb) := fun ρ S hρ => by
  have h1 := hi ρ S hρ
  rw [tm_bind]
  unfold sFor
  cases et : ti S with
  | ok xs S' => rw [et] at h1; rw [show fi ρ S = _ from h1]; exact loopF_ty hg hb xs s0 ρ S' (hρ.sub h0)
  | er q S' => rw [et] at h1; rw [show fi ρ S = _ from h1]; exact ⟨ρ, rfl⟩
  | no => trivial
/-- a piece that may return, then the rest -/
theorem b_fT {Δ : σ → Ctx} {enc : β → Vl} {tf : TM (Fl σ β)} {k : σ → TM β} (ha : Blk n Γ a (ΦF n Δ enc) tf) (h : ∀ s, Blk n (Δ s) r (ΦT enc) (k s)) : Blk n Γ (sSeq a r) (ΦT enc) (tf >>= fun o => flE o k fun x => pure x) := fun ρ S hρ => by
  have := ha ρ S hρ
  rw [tm_bind]
  unfold sSeq
  cases et : tf S with
  | ok o S' =>
    rw [et] at this
    cases o with
    | nx s => obtain ⟨ρ', e, a'⟩ := this; rw [e]; exact h s ρ' S' a'
    | rt x => obtain ⟨ρ', v, e, a'⟩ := this; rw [e]; exact .inl ⟨ρ', v, rfl, a'⟩
  | er x S' =>
    rw [et] at this
    obtain ⟨ρ', e⟩ := this
    rw [e]
    exact ⟨ρ', rfl⟩
  | no => trivial
theorem b_fF {σ' : Type} {Δ : σ → Ctx} {Δ' : σ' → Ctx} {enc : β → Vl} {tf : TM (Fl σ β)} {k : σ → TM (Fl σ' β)} (ha : Blk n Γ a (ΦF n Δ enc) tf) (h : ∀ s, Blk n (Δ s) r (ΦF n Δ' enc) (k s)) : Blk n Γ (sSeq a r) (ΦF n Δ' enc) (tf >>= fun o => flE o k fun x => pure (.rt x)) := fun ρ S hρ => by
  have := ha ρ S hρ
  rw [tm_bind]
  unfold sSeq
  cases et : tf S with
  | ok o S' =>
    rw [et] at this
    cases o with
    | nx s => obtain ⟨ρ', e, a'⟩ := this; rw [e]; exact h s ρ' S' a'
    | rt x => obtain ⟨ρ', v, e, a'⟩ := this; rw [e]; exact ⟨ρ', v, rfl, a'⟩
  | er x S' =>
    rw [et] at this
    obtain ⟨ρ', e⟩ := this
    rw [e]
    exact ⟨ρ', rfl⟩
  | no => trivial
theorem while_q {Δ : σ → Ctx} {c : Env → M Bool} {tc : σ → TM Bool} {tb : σ → TM σ} (hc : ∀ s, XT n (Δ s) c (tc s)) (hb : ∀ s, Blk n (Δ s) body (ΦQ n Δ) (tb s)) : ∀ (m : Nat) (s : σ) (ρ : Env) (S : Sto), Ag n (Δ s) ρ → ΦQ n Δ (whileT m s tc tb S) (whileS c body m ρ S)
  | 0, s, ρ, S, hρ => trivial
  | m + 1, s, ρ, S, hρ => by
    have h1 := hc s ρ S hρ
    show ΦQ n Δ (R.bind (tc s S) _) _
    unfold whileS
    cases et : tc s S with
    | ok x S' =>
      rw [et] at h1
      rw [show c ρ S = _ from h1]
      cases x with
      | false => exact ⟨ρ, rfl, hρ⟩
      | true =>
        have h2 := hb s ρ S' hρ
        show ΦQ n Δ (R.bind (tb s S') _) _
        dsimp only [id]
        cases e2 : tb s S' with
        | ok s2 S2 =>
          rw [e2] at h2
          obtain ⟨ρ2, e3, a2⟩ := h2
          rw [e3]
          exact while_q hc hb m s2 ρ2 S2 a2
        | er q S2 =>
          rw [e2] at h2
          obtain ⟨ρ2, e3⟩ := h2
          rw [e3]
          exact ⟨ρ2, rfl⟩
        | no => trivial
    | er x S' => rw [et] at h1; rw [show c ρ S = _ from h1]; exact ⟨ρ, rfl⟩
    | no => trivial
theorem b_while {Δ : σ → Ctx} {c : Env → M Bool} {tc : σ → TM Bool} {tb : σ → TM σ} {s0 : σ} {m : Nat} {k : σ → TM τ} (g : Gd Φ) (h0 : SubC (Δ s0) Γ) (hc : ∀ s, XT n (Δ s) c (tc s)) (hb : ∀ s, Blk n (Δ s) body (ΦQ n Δ) (tb s)) (h : ∀ s, Blk n (Δ s) r Φ (k s)) : Blk n Γ (sSeq (whileS c body m) r) Φ (whileT m s0 tc tb >>= k) :=
  b_q g (fun ρ S hρ => while_q hc hb m s0 ρ S (hρ.sub h0)) h
/-! own lists and dicts -/
theorem b_own0 (hi : i < n) (h : Blk n ((i, .o []) :: Γ) r Φ t) : Blk n Γ (sSeq (sOwn i asNil) r) Φ t := fun ρ S hρ => h _ S (hρ.set hi)
theorem b_own1P {d : PyData} (hi : i < n) (he : XP n Γ e (.d d)) (h : Blk n ((i, .o [d]) :: Γ) r Φ t) : Blk n Γ (sSeq (sOwn i (asCons e asNil)) r) Φ t := fun ρ S hρ => by
  have h2 := h _ S (hρ.set hi)
  unfold sSeq sOwn
  rw [show asCons e asNil ρ S = .ok [.d d] S by show R.bind (e ρ S) _ = _; rw [he ρ S hρ]; rfl]
  exact h2
theorem b_appP {enc : β → PyData} {xs : List β} {x : β} (g : Gd Φ) (hi : i < n) (hl : look i Γ = some (vO enc xs)) (he : XP n Γ e (vD enc x)) (h : Blk n ((i, vO enc (xs ++ [x])) :: Γ) r Φ t) : Blk n Γ (sSeq (sApp i e) r) Φ (okT (decide (xs.length ≤ big)) () >>= fun _ => t) := fun ρ S hρ => by
  have h2 := h _ S (hρ.set hi)
  have hs : sApp i e ρ S = if xs.length ≤ big then some (.nx, ρ.set i (some (vO enc (xs ++ [x]))), S) else none := by
    unfold sApp
    rw [hρ.2 i _ hl]
    show sE (e ρ S) ρ _ = _
    rw [he ρ S hρ]
    show (if (xs.map enc).length ≤ big then some (Out.nx, ρ.set i (some (Vl.o (xs.map enc ++ [enc x]))), S) else none) = _
    rw [List.length_map]
    have : vO enc (xs ++ [x]) = .o (xs.map enc ++ [enc x]) := by unfold vO; rw [List.map_append]; rfl
    rw [this]
  unfold sSeq
  rw [hs, tm_bind]
  by_cases c : xs.length ≤ big
  · rw [if_pos c, decide_eq_true c]
    exact h2
  · rw [decide_eq_false c]
    exact g.no _
theorem b_app {enc : β → PyData} {xs : List β} {te : TM β} {k : β → TM τ} (g : Gd Φ) (hi : i < n) (hl : look i Γ = some (vO enc xs)) (he : XE n Γ e (vD enc) te) (h : ∀ x, Blk n ((i, vO enc (xs ++ [x])) :: Γ) r Φ (k x)) : Blk n Γ (sSeq (sApp i e) r) Φ (te >>= fun x => okT (decide (xs.length ≤ big)) () >>= fun _ => k x) := fun ρ S hρ => by
  have := he ρ S hρ
  rw [tm_bind]
  cases et : te S with
  | ok x S' =>
    rw [et] at this
    have h3 := b_appP (n := n) (Γ := Γ) (e := fun _ S => .ok (vD enc x) S) g hi hl (fun _ _ _ => rfl) (h x) ρ S' hρ
    have : sSeq (sApp i e) r ρ S = sSeq (sApp i fun _ S => .ok (vD enc x) S) r ρ S' := by
      unfold sSeq sApp
      rw [hρ.2 i _ hl]
      show (match sE (e ρ S) ρ _ with | some (.nx, ρ', S') => r ρ' S' | some q => some q | none => none) = _
      rw [show e ρ S = _ from this]
      rfl
    rw [this]
    exact h3
  | er x S' =>
    rw [et] at this
    unfold sSeq sApp
    rw [hρ.2 i _ hl]
    show Φ _ (match sE (e ρ S) ρ _ with | some (.nx, ρ', S') => r ρ' S' | some q => some q | none => none)
    rw [show e ρ S = _ from this]
    exact g.er _ _ _
  | no => exact g.no _
theorem b_frz {enc : β → PyData} {xs : List β} (hi : i < n) (hl : look i Γ = some (vO enc xs)) (h : Blk n ((i, vD (eSq false enc) xs) :: Γ) b Φ t) : Blk n Γ (sFrz i b) Φ t := fun ρ S hρ => by
  have h2 := h _ S (hρ.set hi)
  unfold sFrz
  rw [hρ.2 i _ hl]
  exact h2
theorem b_frzM {κ : Type} {ek : κ → PyData} {enc : β → PyData} {kk : Bool} {m : List (κ × β)} (hi : i < n) (hl : look i Γ = some (vM kk ek enc m)) (h : Blk n ((i, vD (eM ek enc) m) :: Γ) b Φ t) : Blk n Γ (sFrz i b) Φ t := fun ρ S hρ => by
  have h2 := h _ S (hρ.set hi)
  unfold sFrz
  rw [hρ.2 i _ hl]
  exact h2
theorem b_map {kk : Bool} (hi : i < n) (h : Blk n ((i, .m kk []) :: Γ) r Φ t) : Blk n Γ (sSeq (sMap kk i) r) Φ t := fun ρ S hρ => h _ S (hρ.set hi)
theorem b_mputP {κ : Type} [DecidableEq κ] {ek : κ → PyData} {enc : β → PyData} {kk : Bool} {m : List (κ × β)} {key : κ} {v : β} (g : Gd Φ) (hk : KeyE kk ek) (hi : i < n) (hl : look i Γ = some (vM kk ek enc m)) (he : XP n Γ e (vD enc v)) (hk2 : XP n Γ e' (vD ek key)) (h : Blk n ((i, vM kk ek enc (putL m key v)) :: Γ) r Φ t) :
    Blk n Γ (sSeq (sMapPut i e' e) r) Φ (okT (decide (m.length ≤ big)) () >>= fun _ => t) := fun ρ S hρ => by
  have h2 := h _ S (hρ.set hi)
  unfold sSeq sMapPut
  rw [hρ.2 i _ hl]
  show Φ _ (match sE (e ρ S) ρ _ with | some (.nx, ρ', S') => r ρ' S' | some q => some q | none => none)
  rw [he ρ S hρ]
  show Φ _ (match sE (e' ρ S) ρ _ with | some (.nx, ρ', S') => r ρ' S' | some q => some q | none => none)
  rw [hk2 ρ S hρ, tm_bind]
  show Φ _ (match (match putP kk (m.map fun p => (ek p.1, enc p.2)) (ek key) (enc v) with | some ps' => some (Out.nx, ρ.set i (some (.m kk ps')), S) | none => none) with | some (.nx, ρ', S') => r ρ' S' | some q => some q | none => none)
  rw [putP_ty hk]
  by_cases c : m.length ≤ big
  · rw [if_pos c, decide_eq_true c]
    exact h2
  · rw [decide_eq_false c]
    exact g.no _
/-! targets, two at once -/
theorem b_asg {enc : β → PyData} {te : TM β} {k : β → TM τ} {pt : Tg} {G : β → Ctx} (g : Gd Φ) (he : XE n Γ e (vD enc) te) (hg : ∀ x, TG n pt (enc x) (G x)) (h : ∀ x, Blk n (G x ++ Γ) r Φ (k x)) : Blk n Γ (sSeq (sAsg pt e) r) Φ (te >>= k) := fun ρ S hρ =>
  blk_e (st := fun ρ x S1 => match x with
    | .d d => match asg pt d ρ with
      | some ρ' => some (.nx, ρ', S1)
      | none => none
    | _ => none) g he hρ fun x S' => by
    obtain ⟨ρ1, e1, a1⟩ := hg x Γ ρ hρ
    show Φ _ (match (match asg pt (enc x) ρ with | some ρ' => some (Out.nx, ρ', S') | none => none) with | some (.nx, ρ', S') => r ρ' S' | some q => some q | none => none)
    rw [e1]
    exact h x ρ1 S' a1
theorem b_asgP {d : PyData} {pt : Tg} {G : Ctx} (he : XP n Γ e (.d d)) (hg : TG n pt d G) (h : Blk n (G ++ Γ) r Φ t) : Blk n Γ (sSeq (sAsg pt e) r) Φ t := fun ρ S hρ => by
  obtain ⟨ρ1, e1, a1⟩ := hg Γ ρ hρ
  unfold sSeq sAsg
  rw [he ρ S hρ]
  show Φ _ (match (match asg pt d ρ with | some ρ' => some (Out.nx, ρ', S) | none => none) with | some (.nx, ρ', S') => r ρ' S' | some q => some q | none => none)
  rw [e1]
  exact h ρ1 S a1
theorem b_par {enc : β → PyData} {enc2 : γ → PyData} {te : TM β} {tf : TM γ} {k : β → γ → TM τ} (g : Gd Φ) (hi : i < n) (hj : j < n) (he : XE n Γ e (vD enc) te) (hf : XE n Γ e' (vD enc2) tf) (h : ∀ x y, Blk n ((j, vD enc2 y) :: (i, vD enc x) :: Γ) r Φ (k x y)) : Blk n Γ (sSeq (sPar i j e e') r) Φ (te >>= fun x => tf >>= fun y => k x y) := fun ρ S hρ =>
  blk_e (st := fun ρ x S1 => sE (e' ρ S1) ρ fun y S2 => if notO x && notO y then some (.nx, (ρ.set i (some x)).set j (some y), S2) else none) g he hρ fun x S' =>
    blk_e (e := e') (r := r) (te := tf) (k := fun y => k x y) (st := fun ρ y S2 => if notO (vD enc x) && notO y then some (.nx, (ρ.set i (some (vD enc x))).set j (some y), S2) else none) g hf hρ fun y S2 => h x y _ S2 ((hρ.set hi).set hj)
theorem b_parP {d d' : PyData} (hi : i < n) (hj : j < n) (he : XP n Γ e (.d d)) (hf : XP n Γ e' (.d d')) (h : Blk n ((j, .d d') :: (i, .d d) :: Γ) r Φ t) : Blk n Γ (sSeq (sPar i j e e') r) Φ t := fun ρ S hρ => by
  have h2 := h _ S ((hρ.set hi).set hj)
  unfold sSeq sPar
  rw [he ρ S hρ]
  show Φ _ (match sE (e' ρ S) ρ _ with | some (.nx, ρ', S') => r ρ' S' | some q => some q | none => none)
  rw [hf ρ S hρ]
  exact h2
theorem b_par3 {δ : Type} {enc : β → PyData} {enc2 : γ → PyData} {enc3 : δ → PyData} {te : TM β} {tf : TM γ} {tg : TM δ} {k : β → γ → δ → TM τ} (g : Gd Φ) (hi : i < n) (hj : j < n) (hl : l < n) (he : XE n Γ e (vD enc) te) (hf : XE n Γ e' (vD enc2) tf) (hh : XE n Γ e'' (vD enc3) tg) (h : ∀ x y z, Blk n ((l, vD enc3 z) :: (j, vD enc2 y) :: (i, vD enc x) :: Γ) r Φ (k x y z)) : Blk n Γ (sSeq (sPar3 i j l e e' e'') r) Φ (te >>= fun x => tf >>= fun y => tg >>= fun z => k x y z) := fun ρ S hρ =>
  blk_e (st := fun ρ x S1 => sE (e' ρ S1) ρ fun y S2 => sE (e'' ρ S2) ρ fun z S3 => if notO x && notO y && notO z then some (.nx, ((ρ.set i (some x)).set j (some y)).set l (some z), S3) else none) g he hρ fun x S' =>
    blk_e (e := e') (r := r) (te := tf) (k := fun y => tg >>= fun z => k x y z) (st := fun ρ y S2 => sE (e'' ρ S2) ρ fun z S3 => if notO (vD enc x) && notO y && notO z then some (.nx, ((ρ.set i (some (vD enc x))).set j (some y)).set l (some z), S3) else none) g hf hρ fun y S2 =>
      blk_e (e := e'') (r := r) (te := tg) (k := fun z => k x y z) (st := fun ρ z S3 => if notO (vD enc x) && notO (vD enc2 y) && notO z then some (.nx, ((ρ.set i (some (vD enc x))).set j (some (vD enc2 y))).set l (some z), S3) else none) g hh hρ fun z S3 => h x y z _ S3 (((hρ.set hi).set hj).set hl)
theorem b_expr {enc : β → Vl} {te : TM β} (g : Gd Φ) (he : XE n Γ e enc te) (h : Blk n Γ r Φ t) : Blk n Γ (sSeq (sExpr e) r) Φ (te >>= fun _ => t) := fun ρ S hρ =>
  blk_e (st := fun ρ _ S1 => some (.nx, ρ, S1)) g he hρ fun x S' => h ρ S' hρ
theorem fn_ty {enc : β → Vl} {te : TM β} {xs : List Vl} {S : Sto} {Γ0 : Ctx} (hb : Blk n Γ0 b (ΦT enc) te) (h0 : xs.all notO = true := by rfl) (hn : (xs.map some ++ List.replicate (n - xs.length) none).length = n := by rfl) (hΓ : AgL (xs.map some ++ List.replicate (n - xs.length) none) Γ0) : Rf enc (te S) (runF n b xs S) := by
  have h := hb _ S (hΓ.ag hn)
  unfold runF
  rw [if_pos h0]
  cases et : te S with
  | ok x S' =>
    rw [et] at h
    rcases h with ⟨ρ', v, e, hv⟩ | ⟨ρ', e, hv⟩
    · rw [e]; show R.ok (retV v) S' = _; rw [hv]
    · rw [e]; show R.ok (Vl.d .none) S' = _; rw [hv]
  | er x S' =>
    rw [et] at h
    obtain ⟨ρ', e⟩ := h
    rw [e]; exact rfl
  | no => trivial
end
end Sm

set_option maxHeartbeats 4000000
namespace Sm
open PySem PySem.Spec PyProof.Rows L2 Lf

/-! # what the operators do, typed -/
section
variable {a b c d : PyData} {S : Sto} {f : PyData → PyData → Option PyData} {g : PyData → Option PyData} {h : List PyData → Option PyData} {α β γ : Type} {e : α → PyData} {e' : β → PyData}
theorem pr2 (q : f a b = some c) (S : Sto) : lift2 f (.d a) (.d b) S = .ok (.d c) S := by rw [lift2_dd, q]; rfl
theorem pr1 (q : g a = some c) (S : Sto) : lift1 g (.d a) S = .ok (.d c) S := by rw [lift1_d, q]; rfl
theorem prA1 (q : h [a] = some c) (S : Sto) : liftA h [.d a] S = .ok (.d c) S := by rw [liftA_1, q]; rfl
theorem prA1o {ds : List PyData} (q : h [.list ds] = some c) (S : Sto) : liftA h [.o ds] S = .ok (.d c) S := by rw [liftA_1o, q]; rfl
theorem prA2 (q : h [a, b] = some c) (S : Sto) : liftA h [.d a, .d b] S = .ok (.d c) S := by rw [liftA_2, q]; rfl
/-- one that may be stuck -/
theorem someT_ty {o : Option α} {r : Option PyData} (q : r = o.map e) (S : Sto) : Rf (vD e) (someT o S) (lift r S) := by
  subst q
  cases o <;> first | exact trivial | exact rfl
theorem mr2 {o : Option α} (q : f a b = o.map e) (S : Sto) : Rf (vD e) (someT o S) (lift2 f (.d a) (.d b) S) := by rw [lift2_dd]; exact someT_ty q S
theorem mr1 {o : Option α} (q : g a = o.map e) (S : Sto) : Rf (vD e) (someT o S) (lift1 g (.d a) S) := by rw [lift1_d]; exact someT_ty q S
theorem mrA1 {o : Option α} (q : h [a] = o.map e) (S : Sto) : Rf (vD e) (someT o S) (liftA h [.d a] S) := by rw [liftA_1]; exact someT_ty q S
theorem mrA1o {ds : List PyData} {o : Option α} (q : h [.list ds] = o.map e) (S : Sto) : Rf (vD e) (someT o S) (liftA h [.o ds] S) := by rw [liftA_1o]; exact someT_ty q S
theorem okT_lift {p : Bool} {x : α} {r : Option PyData} (q : p = true → r = some (e x)) (S : Sto) : Rf (vD e) (okT p x S) (lift r S) := by
  cases p
  · exact trivial
  · rw [q rfl]; exact rfl
theorem ok2 {p : Bool} {x : α} (q : p = true → f a b = some (e x)) (S : Sto) : Rf (vD e) (okT p x S) (lift2 f (.d a) (.d b) S) := by rw [lift2_dd]; exact okT_lift q S
theorem ok1 {p : Bool} {x : α} (q : p = true → g a = some (e x)) (S : Sto) : Rf (vD e) (okT p x S) (lift1 g (.d a) S) := by rw [lift1_d]; exact okT_lift q S
theorem okA1 {p : Bool} {x : α} (q : p = true → h [a] = some (e x)) (S : Sto) : Rf (vD e) (okT p x S) (liftA h [.d a] S) := by rw [liftA_1]; exact okT_lift q S
theorem okA1o {ds : List PyData} {p : Bool} {x : α} (q : p = true → h [.list ds] = some (e x)) (S : Sto) : Rf (vD e) (okT p x S) (liftA h [.o ds] S) := by rw [liftA_1o]; exact okT_lift q S
/-! equality -/
structure EqE (e : α → PyData) [DecidableEq α] : Prop where
  eqv : ∀ x y, (e x).eqv (e y) = decide (x = y)
theorem eqI : EqE PyData.int := ⟨fun x y => by rw [PyData.eqv]; by_cases h : x = y <;> simp [h]⟩
theorem eqS : EqE PyData.str := ⟨fun x y => by rw [PyData.eqv]; by_cases h : x = y <;> simp [h]⟩
theorem eqB : EqE PyData.bool := ⟨fun x y => by rw [PyData.eqv]; cases x <;> cases y <;> rfl⟩
theorem eqvAll_map [DecidableEq α] (E : EqE e) : ∀ xs ys : List α, PyData.eqvAll (xs.map e) (ys.map e) = decide (xs = ys)
  | [], [] => by simp [PyData.eqvAll]
  | [], _ :: _ => by simp [PyData.eqvAll]
  | _ :: _, [] => by simp [PyData.eqvAll]
  | x :: xs, y :: ys => by
    rw [List.map_cons, List.map_cons, PyData.eqvAll, E.eqv, eqvAll_map E xs ys]
    by_cases h : x = y <;> by_cases h2 : xs = ys <;> simp [h, h2]
theorem eqSq [DecidableEq α] {k : Bool} (E : EqE e) : EqE (eSq k e) := ⟨fun x y => by
  cases k
  · show (PyData.list (x.map e)).eqv (.list (y.map e)) = _
    rw [PyData.eqv, eqvAll_map E]
  · show (PyData.tuple (x.map e)).eqv (.tuple (y.map e)) = _
    rw [PyData.eqv, eqvAll_map E]⟩
theorem eqP2' [DecidableEq α] [DecidableEq β] {k : Bool} (E : EqE e) (F : EqE e') : EqE (eP2 k e e') := ⟨fun x y => by
  obtain ⟨x1, x2⟩ := x
  obtain ⟨y1, y2⟩ := y
  have key : PyData.eqvAll [e x1, e' x2] [e y1, e' y2] = decide ((x1, x2) = (y1, y2)) := by
    rw [PyData.eqvAll, PyData.eqvAll, PyData.eqvAll, E.eqv, F.eqv]
    by_cases h : x1 = y1 <;> by_cases h2 : x2 = y2 <;> simp [h, h2]
  cases k
  · show (PyData.list _).eqv (.list _) = _
    rw [PyData.eqv, key]
  · show (PyData.tuple _).eqv (.tuple _) = _
    rw [PyData.eqv, key]⟩
theorem eqP3' {e'' : γ → PyData} [DecidableEq α] [DecidableEq β] [DecidableEq γ] {k : Bool} (E : EqE e) (F : EqE e') (G : EqE e'') : EqE (eP3 k e e' e'') := ⟨fun x y => by
  obtain ⟨x1, x2, x3⟩ := x
  obtain ⟨y1, y2, y3⟩ := y
  have key : PyData.eqvAll [e x1, e' x2, e'' x3] [e y1, e' y2, e'' y3] = decide ((x1, x2, x3) = (y1, y2, y3)) := by
    rw [PyData.eqvAll, PyData.eqvAll, PyData.eqvAll, PyData.eqvAll, E.eqv, F.eqv, G.eqv]
    by_cases h : x1 = y1 <;> by_cases h2 : x2 = y2 <;> by_cases h3 : x3 = y3 <;> simp [h, h2, h3]
  cases k
  · show (PyData.list _).eqv (.list _) = _
    rw [PyData.eqv, key]
  · show (PyData.tuple _).eqv (.tuple _) = _
    rw [PyData.eqv, key]⟩
abbrev shp (d : PyData) : Bool := SeqAt.shaped d
theorem eqP_shp {a b : PyData} (h1 : shp a = true) (h2 : shp b = true) : eqP a b = some (a.eqv b) := by
  unfold eqP
  split
  · rw [PyData.eqv]; rfl
  · rw [PyData.eqv]; rfl
  · rw [PyData.eqv]; rfl
  · rw [PyData.eqv]
  · rw [if_pos (by rw [show SeqAt.shaped a = true from h1, show SeqAt.shaped b = true from h2]; rfl)]
theorem eqF_ok [DecidableEq α] (E : EqE e) (x y : α) (h : (shp (e x) && shp (e y)) = true) : eqF (e x) (e y) = some (.bool (decide (x = y))) := by
  rw [Bool.and_eq_true] at h
  unfold eqF
  rw [eqP_shp h.1 h.2, E.eqv]
theorem neF_ok [DecidableEq α] (E : EqE e) (x y : α) (h : (shp (e x) && shp (e y)) = true) : neF (e x) (e y) = some (.bool (!decide (x = y))) := by
  rw [Bool.and_eq_true] at h
  unfold neF
  rw [eqP_shp h.1 h.2, E.eqv]
theorem eqF_i (x y : Int) : eqF (.int x) (.int y) = some (.bool (decide (x = y))) := rfl
theorem eqF_s (x y : Str) : eqF (.str x) (.str y) = some (.bool (decide (x = y))) := rfl
theorem eqF_b (x y : Bool) : eqF (.bool x) (.bool y) = some (.bool (decide (x = y))) := rfl
theorem neF_i (x y : Int) : neF (.int x) (.int y) = some (.bool (!decide (x = y))) := rfl
theorem neF_s (x y : Str) : neF (.str x) (.str y) = some (.bool (!decide (x = y))) := rfl
theorem neF_b (x y : Bool) : neF (.bool x) (.bool y) = some (.bool (!decide (x = y))) := rfl
theorem any_eqv [DecidableEq α] (E : EqE e) (x : α) (xs : List α) : (xs.map e).any (fun z => z.eqv (e x)) = decide (x ∈ xs) := by
  induction xs with
  | nil => rfl
  | cons y ys ih =>
    rw [List.map_cons, List.any_cons, ih, E.eqv]
    by_cases h : y = x
    · simp [h]
    · simp [h, Ne.symm h]
theorem inF_ok [DecidableEq α] {k : Bool} (E : EqE e) (x : α) (xs : List α) (h : (shp (e x) && shp (eSq k e xs)) = true) : inF (e x) (eSq k e xs) = some (.bool (decide (x ∈ xs))) := by
  cases k
  · show orF (bF inL) (bF inT) (e x) (.list (xs.map e)) = _
    have h' : (SeqAt.shaped (e x) && SeqAt.shaped (.list (xs.map e))) = true := h
    simp only [orF, bF, inL, if_pos h', any_eqv E]
  · show orF (bF inL) (bF inT) (e x) (.tuple (xs.map e)) = _
    have h' : (SeqAt.shaped (e x) && SeqAt.shaped (.tuple (xs.map e))) = true := h
    simp only [orF, bF, inL, inT, if_pos h', any_eqv E]
theorem ninF_ok [DecidableEq α] {k : Bool} (E : EqE e) (x : α) (xs : List α) (h : (shp (e x) && shp (eSq k e xs)) = true) : ninF (e x) (eSq k e xs) = some (.bool (!decide (x ∈ xs))) := by
  cases k
  · show orF (bnF inL) (bnF inT) (e x) (.list (xs.map e)) = _
    have h' : (SeqAt.shaped (e x) && SeqAt.shaped (.list (xs.map e))) = true := h
    simp only [orF, bnF, inL, if_pos h', any_eqv E]
  · show orF (bnF inL) (bnF inT) (e x) (.tuple (xs.map e)) = _
    have h' : (SeqAt.shaped (e x) && SeqAt.shaped (.tuple (xs.map e))) = true := h
    simp only [orF, bnF, inL, inT, if_pos h', any_eqv E]
/-! in, of a list of one's own -/
theorem inF_o [DecidableEq α] (E : EqE e) (x : α) (xs : List α) (S : Sto) : Rf (vD PyData.bool) (okT (shp (e x) && shp (eSq false e xs)) (decide (x ∈ xs)) S) (lift2 inF (vD e x) (vO e xs) S) := by
  show Rf _ _ (lift (inF (e x) (eSq false e xs)) S)
  exact okT_lift (inF_ok E x xs) S
theorem ninF_o [DecidableEq α] (E : EqE e) (x : α) (xs : List α) (S : Sto) : Rf (vD PyData.bool) (okT (shp (e x) && shp (eSq false e xs)) (!decide (x ∈ xs)) S) (lift2 ninF (vD e x) (vO e xs) S) := by
  show Rf _ _ (lift (ninF (e x) (eSq false e xs)) S)
  exact okT_lift (ninF_ok E x xs) S
/-! + -/
theorem addD_sq {k : Bool} (xs ys : List α) (h : decide (xs.length + ys.length ≤ big) = true) : addD (eSq k e xs) (eSq k e ys) = some (eSq k e (xs ++ ys)) := by
  have h' := of_decide_eq_true h
  cases k
  · show addD (.list (xs.map e)) (.list (ys.map e)) = some (.list _)
    rw [addD_ll' (by rw [List.length_map, List.length_map]; exact h'), List.map_append]
  · show addD (.tuple (xs.map e)) (.tuple (ys.map e)) = some (.tuple _)
    rw [addD_tt' (by rw [List.length_map, List.length_map]; exact h'), List.map_append]
where
  addD_tt' {as bs : List PyData} (h : as.length + bs.length ≤ big) : addD (.tuple as) (.tuple bs) = some (.tuple (as ++ bs)) := by
    simp only [addD, orF, intOp, catL, catT, if_pos h]
  addD_ll' {as bs : List PyData} (h : as.length + bs.length ≤ big) : addD (.list as) (.list bs) = some (.list (as ++ bs)) := by
    simp only [addD, orF, intOp, catL, if_pos h]
theorem mulD_ok (i j : Int) (h : (smallI i && smallI j) = true) : mulD (.int i) (.int j) = some (.int (i * j)) := by
  show mulI i j = _
  unfold mulI
  rw [if_pos h]
theorem divD_ok (i j : Int) (h : (decide (0 < j) && smallI j) = true) : divD (.int i) (.int j) = some (.int (i / j)) := by
  show divI i j = _
  unfold divI
  rw [if_pos h]
theorem modD_ok (i j : Int) (h : decide (0 < j) = true) : modD (.int i) (.int j) = some (.int (i % j)) := by
  show modI i j = _
  unfold modI
  rw [if_pos (of_decide_eq_true h)]
/-! places -/
theorem atI_map (xs : List α) (i : Int) : atI (xs.map e) i = (atI xs i).map e := by
  unfold atI
  rw [List.length_map]
  cases ixN xs.length i with
  | none => rfl
  | some j => show (xs.map e)[j]? = (xs[j]?).map e; rw [List.getElem?_map]
theorem orF_none {f g : PyData → PyData → Option PyData} {a b : PyData} (h : g a b = none) : orF f g a b = f a b := by
  unfold orF
  cases f a b with
  | none => exact h
  | some _ => rfl
theorem ixAll_sq {k : Bool} (xs : List α) (i : Int) : ixAll (eSq k e xs) (.int i) = (atI xs i).map e := by
  rw [← atI_map]
  cases k
  · show orF (orF ixLT ixD) ixS (.list (xs.map e)) (.int i) = _
    rw [orF_none rfl, orF_none rfl]; rfl
  · show orF (orF ixLT ixD) ixS (.tuple (xs.map e)) (.int i) = _
    rw [orF_none rfl, orF_none rfl]; rfl
theorem ixAll_p0 {k : Bool} (p : α × β) : ixAll (eP2 k e e' p) (.int 0) = some (e p.1) := by cases k <;> rfl
theorem ixAll_p1 {k : Bool} (p : α × β) : ixAll (eP2 k e e' p) (.int 1) = some (e' p.2) := by cases k <;> rfl
theorem ixAll_t0 {k : Bool} {e'' : γ → PyData} (p : α × β × γ) : ixAll (eP3 k e e' e'' p) (.int 0) = some (e p.1) := by cases k <;> rfl
theorem ixAll_t1 {k : Bool} {e'' : γ → PyData} (p : α × β × γ) : ixAll (eP3 k e e' e'' p) (.int 1) = some (e' p.2.1) := by cases k <;> rfl
theorem ixAll_t2 {k : Bool} {e'' : γ → PyData} (p : α × β × γ) : ixAll (eP3 k e e' e'' p) (.int 2) = some (e'' p.2.2) := by cases k <;> rfl
theorem ixAll_d (ps : List (PyData × PyData)) (k : PyData) : ixAll (.dict ps) k = lookP ps k := by
  cases k <;> (show orF (orF ixLT ixD) ixS (.dict ps) _ = _; rw [orF_none rfl]; rfl)
theorem ixAll_m {κ : Type} [DecidableEq κ] {ek : κ → PyData} {t : Bool} (hk : KeyE t ek) (m : List (κ × α)) (key : κ) : ixAll (eM ek e m) (ek key) = (getL m key).map e := by
  rw [← lookP_ty hk]
  exact ixAll_d _ _
/-! len, tuple, list -/
theorem fLen_sq {k : Bool} (xs : List α) : fLen [eSq k e xs] = some (.int xs.length) := by
  cases k
  · show some (PyData.int (xs.map e).length) = _; rw [List.length_map]
  · show some (PyData.int (xs.map e).length) = _; rw [List.length_map]
theorem fLen_o (xs : List α) : fLen [.list (xs.map e)] = some (.int xs.length) := by show some (PyData.int (xs.map e).length) = _; rw [List.length_map]
theorem fTuple_sq {k : Bool} (xs : List α) : fTuple [eSq k e xs] = some (eSq true e xs) := by cases k <;> rfl
theorem fList_sq {k : Bool} (xs : List α) : fList [eSq k e xs] = some (eSq false e xs) := by cases k <;> rfl
theorem fTuple_p {k : Bool} (p : α × β) : fTuple [eP2 k e e' p] = some (eP2 true e e' p) := by cases k <;> rfl
theorem fList_p {k : Bool} (p : α × β) : fList [eP2 k e e' p] = some (eP2 false e e' p) := by cases k <;> rfl
/-! min, max, sum, all, any of ints, bools -/
theorem asBools_map' (bs : List Bool) : asBools (bs.map PyData.bool) = some bs := by
  induction bs with
  | nil => rfl
  | cons b bs ih => rw [List.map_cons]; unfold asBools; rw [ih]
theorem asStrs_map' (bs : List Str) : asStrs (bs.map PyData.str) = some bs := by
  induction bs with
  | nil => rfl
  | cons b bs ih => rw [List.map_cons]; unfold asStrs; rw [ih]
def minT : List Int → Option Int
  | [] => none
  | n :: ns => some (minI ns n)
def maxT : List Int → Option Int
  | [] => none
  | n :: ns => some (maxI ns n)
theorem fMin_sq (ns : List Int) : fMin [eSq false PyData.int ns] = (minT ns).map PyData.int := by
  show (match asInts (ns.map PyData.int) with | some (n :: ns) => some (PyData.int (minI ns n)) | _ => none) = _
  rw [asInts_map]
  cases ns <;> rfl
theorem fMax_sq (ns : List Int) : fMax [eSq false PyData.int ns] = (maxT ns).map PyData.int := by
  show (match asInts (ns.map PyData.int) with | some (n :: ns) => some (PyData.int (maxI ns n)) | _ => none) = _
  rw [asInts_map]
  cases ns <;> rfl
theorem fMinD_sq (ns : List Int) : fMinD (eSq false PyData.int ns) = some (eO PyData.int (minT ns)) := by
  show (match asInts (ns.map PyData.int) with | some [] => some PyData.none | some (n :: ns) => some (PyData.int (minI ns n)) | none => none) = _
  rw [asInts_map]
  cases ns <;> rfl
theorem fMin_ii (i j : Int) : fMin [.int i, .int j] = some (.int (if j < i then j else i)) := rfl
theorem fMax_ii (i j : Int) : fMax [.int i, .int j] = some (.int (if j > i then j else i)) := rfl
theorem fSum_sq (ns : List Int) : fSum [eSq false PyData.int ns] = some (.int ns.sum) := by
  show (match asInts (ns.map PyData.int) with | some ns => some (PyData.int ns.sum) | none => none) = _
  rw [asInts_map]
theorem fAll_sq (bs : List Bool) : fAll [eSq false PyData.bool bs] = some (.bool (bs.all id)) := by
  show (match asBools (bs.map PyData.bool) with | some bs => some (PyData.bool (bs.all id)) | none => none) = _
  rw [asBools_map]
theorem fAny_sq (bs : List Bool) : fAny [eSq false PyData.bool bs] = some (.bool (bs.any id)) := by
  show (match asBools (bs.map PyData.bool) with | some bs => some (PyData.bool (bs.any id)) | none => none) = _
  rw [asBools_map]
theorem fInt_bool (b : Bool) : fInt [.bool b] = some (.int (if b then 1 else 0)) := rfl
/-! sorted -/
def insE (rev : Bool) (e : α → PyData) (x : α) : List α → List α
  | [] => [x]
  | y :: ys => if befD rev (e y) (e x) = true then y :: insE rev e x ys else x :: y :: ys
def sortE (rev : Bool) (e : α → PyData) (xs : List α) : List α := xs.foldr (insE rev e) []
theorem insE_map {rev : Bool} (x : α) : ∀ ys : List α, (insE rev e x ys).map e = insD rev (e x) (ys.map e)
  | [] => rfl
  | y :: ys => by
    rw [List.map_cons]
    unfold insE insD
    split
    · rw [List.map_cons, insE_map x ys]
    · rw [List.map_cons, List.map_cons]
theorem sortE_map {rev : Bool} : ∀ xs : List α, (sortE rev e xs).map e = sortD rev (xs.map e)
  | [] => rfl
  | x :: xs => by
    show (insE rev e x (sortE rev e xs)).map e = _
    rw [insE_map, sortE_map xs]
    rfl
theorem insE_perm {rev : Bool} {x : α} : ∀ {ys : List α}, (insE rev e x ys).Perm (x :: ys)
  | [] => .refl _
  | y :: ys => by
    unfold insE
    split
    · exact (List.Perm.cons y insE_perm).trans (List.Perm.swap x y ys)
    · exact .refl _
theorem sortE_perm {rev : Bool} : ∀ (xs : List α), (sortE rev e xs).Perm xs
  | [] => .refl _
  | d :: ds => insE_perm.trans (List.Perm.cons d (sortE_perm ds))
theorem sortE_up {rev : Bool} (xs : List α) : (sortE rev e xs).Pairwise fun a b => befD rev (e b) (e a) = false := by
  have := sortD_up (rev := rev) (xs.map e)
  rw [← sortE_map, List.pairwise_map] at this
  exact this
theorem fSortD_ok {rev : Bool} (xs : List α) (h : sortable (xs.map e) = true) : fSortD rev (eSq false e xs) = some (eSq false e (sortE rev e xs)) := by
  show (if sortable (xs.map e) then some (PyData.list (sortD rev (xs.map e))) else none) = some (.list _)
  rw [if_pos h, sortE_map]
/-- data that are tuples -/
def TupE (e : α → PyData) : Prop := ∀ x, isTupD (e x) = true
theorem asInts_tup (T : TupE e) (xs : List α) (h : xs ≠ []) : asInts (xs.map e) = none := by
  cases xs with
  | nil => exact absurd rfl h
  | cons x xs =>
    have := T x
    rw [List.map_cons]
    generalize e x = y at this ⊢
    match y, this with
    | .tuple _, _ => rfl
theorem asStrs_tup (T : TupE e) (xs : List α) (h : xs ≠ []) : asStrs (xs.map e) = none := by
  cases xs with
  | nil => exact absurd rfl h
  | cons x xs =>
    have := T x
    rw [List.map_cons]
    generalize e x = y at this ⊢
    match y, this with
    | .tuple _, _ => rfl
theorem fSortedB_tup (T : TupE e) (xs : List α) (h : sortable (xs.map e) = true) : fSortedB [eSq false e xs] = some (eSq false e (sortE false e xs)) := by
  by_cases hx : xs = []
  · subst hx; rfl
  · show (match fSortedI [.list (xs.map e)] with | some c => some c | none => match fSortedT [.list (xs.map e)] with | some c => some c | none => fSortedL [.list (xs.map e)]) = _
    have h1 : fSortedI [.list (xs.map e)] = none := by
      show (match asInts (xs.map e) with | some ns => some (PyData.list ((sortI ns).map PyData.int)) | none => none) = none
      rw [asInts_tup T xs hx]
    have h2 : fSortedT [.list (xs.map e)] = none := by
      show (match asStrs (xs.map e) with | some ns => if ns.length < 64 then some (PyData.list ((sortT ns).map PyData.str)) else none | none => none) = none
      rw [asStrs_tup T xs hx]
    rw [h1, h2]
    exact fSortD_ok xs h
theorem fSortedB_int (ns : List Int) : fSortedB [eSq false PyData.int ns] = some (eSq false PyData.int (sortI ns)) := by
  have h1 : fSortedI [.list (ns.map PyData.int)] = some (.list ((sortI ns).map PyData.int)) := by
    show (match asInts (ns.map PyData.int) with | some ns => some (PyData.list ((sortI ns).map PyData.int)) | none => none) = _
    rw [asInts_map]
  show (match fSortedI [.list (ns.map PyData.int)] with | some c => some c | none => _) = _
  rw [h1]; rfl
theorem fSortedB_str (ns : List Str) (h : decide (ns.length < 64) = true) : fSortedB [eSq false PyData.str ns] = some (eSq false PyData.str (sortT ns)) := by
  by_cases hx : ns = []
  · subst hx; rfl
  · have h1 : fSortedI [.list (ns.map PyData.str)] = none := by
      cases ns with
      | nil => exact absurd rfl hx
      | cons n ns => rfl
    have h2 : fSortedT [.list (ns.map PyData.str)] = some (.list ((sortT ns).map PyData.str)) := by
      show (match asStrs (ns.map PyData.str) with | some ns => if ns.length < 64 then some (PyData.list ((sortT ns).map PyData.str)) else none | none => none) = _
      rw [asStrs_map']
      dsimp only
      rw [if_pos (of_decide_eq_true h)]
    show (match fSortedI [.list (ns.map PyData.str)] with | some c => some c | none => match fSortedT [.list (ns.map PyData.str)] with | some c => some c | none => _) = _
    rw [h1, h2]; rfl
/-! sorted(set(..)) -/
def insAE (e : α → PyData) (x : α) : List α → List α
  | [] => [x]
  | y :: ys => if PySem.W.dataLt (e y) (e x) = true then y :: insAE e x ys else if PySem.W.dataLt (e x) (e y) = true then x :: y :: ys else y :: ys
def ascE (e : α → PyData) (xs : List α) : List α := xs.foldr (insAE e) []
theorem insAE_map (x : α) : ∀ ys : List α, (insAE e x ys).map e = insA (e x) (ys.map e)
  | [] => rfl
  | y :: ys => by
    rw [List.map_cons]
    unfold insAE insA
    split
    · rw [List.map_cons, insAE_map x ys]
    · split
      · rw [List.map_cons, List.map_cons]
      · rw [List.map_cons]
theorem ascE_map : ∀ xs : List α, (ascE e xs).map e = ascD (xs.map e)
  | [] => rfl
  | x :: xs => by
    show (insAE e x (ascE e xs)).map e = _
    rw [insAE_map, ascE_map xs]
    rfl
theorem ssA_sq {k : Bool} {ds es : List PyData} (h : ssB ds = some es) : ssA (mkSeq k ds) = some (.list es) := by
  cases k
  · show (match ssB ds with | some es => some (PyData.list es) | none => none) = _; rw [h]
  · show (match ssB ds with | some es => some (PyData.list es) | none => none) = _; rw [h]
theorem ssA_int {k : Bool} (ns : List Int) (h : decide (ns.length < 64) = true) : ssA (eSq k PyData.int ns) = some (eSq false PyData.int (ascI ns)) := by
  refine ssA_sq ?_
  unfold ssB ssL
  rw [List.length_map, if_pos (of_decide_eq_true h), asInts_map]
theorem ssA_str {k : Bool} (ns : List Str) (h : decide (ns.length ≤ 4000) = true) : ssA (eSq k PyData.str ns) = some (eSq false PyData.str (ascT ns)) := by
  refine ssA_sq ?_
  by_cases hx : ns = []
  · subst hx; rfl
  · unfold ssB
    have : ssL (ns.map PyData.str) = none := by
      unfold ssL
      split
      · cases ns with
        | nil => exact absurd rfl hx
        | cons n ns => rfl
      · rfl
    rw [this, asStrs_map']
    dsimp only
    rw [if_pos (of_decide_eq_true h)]
theorem ssA_tup {k : Bool} (T : TupE e) (xs : List α) (h : (keyTB (xs.map e) && sortable (xs.map e) && decide (xs.length < 64)) = true) : ssA (eSq k e xs) = some (eSq false e (ascE e xs)) := by
  refine ssA_sq ?_
  by_cases hx : xs = []
  · subst hx; rfl
  · unfold ssB
    have : ssL (xs.map e) = none := by
      unfold ssL
      rw [asInts_tup T xs hx]
      split <;> rfl
    rw [this, asStrs_tup T xs hx]
    dsimp only
    rw [List.length_map, if_pos h, ascE_map]
theorem tupP2 : TupE (eP2 true e e') := fun _ => rfl
theorem tupP3 {e'' : γ → PyData} : TupE (eP3 true e e' e'') := fun _ => rfl
theorem tupSq : TupE (eSq true e) := fun _ => rfl
/-! keys -/
theorem keyS : KeyE false PyData.str := ⟨Sum.inr, fun _ => rfl, fun _ _ h => by cases h; rfl⟩
theorem keyI : KeyE false PyData.int := ⟨Sum.inl, fun _ => rfl, fun _ _ h => by cases h; rfl⟩
theorem keyP (h : KeyE false e) (h' : KeyE false e') : KeyE true (eP2 true e e') := by
  obtain ⟨dk, h1, h2⟩ := h
  obtain ⟨dk', h3, h4⟩ := h'
  refine ⟨fun p => [dk p.1, dk' p.2], fun p => ?_, fun p q z => ?_⟩
  · show keysOf [e p.1, e' p.2] = _
    unfold keysOf keysOf keysOf
    rw [h1, h3]
  · obtain ⟨p1, p2⟩ := p
    obtain ⟨q1, q2⟩ := q
    injection z with z1 z2
    injection z2 with z2 _
    have q1' : p1 = q1 := h2 _ _ z1
    have q2' : p2 = q2 := h4 _ _ z2
    rw [q1', q2']
theorem keySq (h : KeyE false e) : KeyE true (eSq true e) := by
  obtain ⟨dk, h1, h2⟩ := h
  refine ⟨fun xs => xs.map dk, fun xs => ?_, fun xs ys z => ?_⟩
  · show keysOf (xs.map e) = _
    induction xs with
    | nil => rfl
    | cons x xs ih => rw [List.map_cons]; unfold keysOf; rw [h1, ih]; rfl
  · exact List.map_inj_right (fun x y q => h2 x y q) |>.mp z
/-! slices -/
theorem cutG_map (xs : List α) (lo hi : Option Int) : cutG (xs.map e) lo hi = (cutG xs lo hi).map e := by
  unfold cutG
  rw [List.length_map, List.map_take, List.map_drop]
theorem cutFS_sq {k : Bool} (xs : List α) (lo hi : Option Int) : cutFS lo hi (eSq k e xs) = some (eSq k e (cutG xs lo hi)) := by
  cases k
  · show some (PyData.list (cutG (xs.map e) lo hi)) = some (.list _); rw [cutG_map]
  · show some (PyData.tuple (cutG (xs.map e) lo hi)) = some (.tuple _); rw [cutG_map]
def XO (n : Nat) (Γ : Ctx) (f : Env → M (Option Int)) (o : Option Int) : Prop := ∀ ρ S, Ag n Γ ρ → f ρ S = .ok o S
theorem xo_none {n : Nat} {Γ : Ctx} : XO n Γ oNone none := fun _ _ _ => rfl
theorem xo_some {n : Nat} {Γ : Ctx} {x : Ex} {i : Int} (h : XP n Γ x (vD PyData.int i)) : XO n Γ (oSome x) (some i) := fun ρ S hρ => by
  show R.bind (x ρ S) toI = _
  rw [h ρ S hρ]
  rfl
theorem xp_sl {n : Nat} {Γ : Ctx} {x : Ex} {k : Bool} {xs : List α} {fl fh : Env → M (Option Int)} {lo hi : Option Int} (h : XP n Γ x (vD (eSq k e) xs)) (hl : XO n Γ fl lo) (hh : XO n Γ fh hi) : XP n Γ (eSlS x fl fh) (vD (eSq k e) (cutG xs lo hi)) := fun ρ S hρ => by
  show R.bind (x ρ S) _ = _
  rw [h ρ S hρ]
  show R.bind (fl ρ S) _ = _
  rw [hl ρ S hρ]
  show R.bind (fh ρ S) _ = _
  rw [hh ρ S hρ]
  show lift (cutFS lo hi (eSq k e xs)) S = _
  rw [cutFS_sq]
  rfl
/-! reversed -/
theorem rev2_sq {k : Bool} (xs : List α) (h : decide (xs.length ≤ 1000) = true) : rev2F (eSq k e xs) = some (eSq k e xs.reverse) := by
  cases k
  · show some (PyData.list (xs.map e).reverse) = some (.list _); rw [List.map_reverse]
  · show (if (xs.map e).length ≤ 1000 then some (PyData.tuple (xs.map e).reverse) else none) = some (.tuple _)
    rw [List.length_map, if_pos (of_decide_eq_true h), List.map_reverse]
theorem rev2_p {k : Bool} (p : α × β) : rev2F (eP2 k e e' p) = some (eP2 k e' e (p.2, p.1)) := by cases k <;> rfl
/-! is None -/
theorem isF_o (hn : ∀ x, isNone (e x) = false) (o : Option α) : isF (eO e o) .none = some (.bool o.isNone) := by
  cases o with
  | none => rfl
  | some x => show some (PyData.bool (isNone (e x))) = _; rw [hn]; rfl
theorem isnF_o (hn : ∀ x, isNone (e x) = false) (o : Option α) : isnF (eO e o) .none = some (.bool o.isSome) := by
  cases o with
  | none => rfl
  | some x => show some (PyData.bool !(isNone (e x))) = _; rw [hn]; rfl
theorem nn_int : ∀ x, isNone (.int x) = false := fun _ => rfl
theorem nn_str : ∀ x, isNone (.str x) = false := fun _ => rfl
theorem nn_sq {k : Bool} : ∀ x, isNone (eSq k e x) = false := fun _ => by cases k <;> rfl
theorem nn_p2 {k : Bool} : ∀ x, isNone (eP2 k e e' x) = false := fun _ => by cases k <;> rfl
/-! < on texts -/
theorem ltF_s (x y : Str) : ltF (.str x) (.str y) = some (.bool (ltB x y)) := by
  show orF (intOp _) ltX (.str x) (.str y) = _
  unfold orF
  rw [show intOp (fun i j => some (PyData.bool (decide (i < j)))) (.str x) (.str y) = none from rfl]
  show ltX (.str x) (.str y) = _
  unfold ltX
  rw [show (PySem.W.alike (.str x) (.str y) && !isNone (.str x) && plainD (.str x) && plainD (.str y) && decide ((PyData.str x).depth ≤ 64)) = true by
    simp [PySem.W.alike, isNone, plainD, PyData.depth]]
  rw [if_pos rfl]
  show some (PyData.bool (ltS x y)) = _
  rw [ltS_B]
end
/-! in, not in, of dicts -/
section
variable {n i : Nat} {Γ : Ctx} {x : Ex} {κ α : Type} [DecidableEq κ] {ek : κ → PyData} {e : α → PyData} {t : Bool} {m : List (κ × α)} {key : κ} {kf : Bool → Bool}
theorem xp_hasK (hk : KeyE t ek) (hl : look i Γ = some (vM t ek e m)) (h : XP n Γ x (vD ek key)) : XP n Γ (eHasK kf i x) (vD PyData.bool (kf (getL m key).isSome)) := fun ρ S hρ => by
  show R.bind (x ρ S) _ = _
  rw [h ρ S hρ]
  show (match ρ[i]? with
    | some (some (.m t ps)) => match hasP t ps (ek key) with
      | some b => R.ok (Vl.d (.bool (kf b))) S
      | none => .no
    | some (some (.d (.dict (q :: ps)))) => match (match hasP false (q :: ps) (ek key) with
        | some b => some b
        | none => hasP true (q :: ps) (ek key)) with
      | some b => .ok (.d (.bool (kf b))) S
      | none => .no
    | _ => .no) = _
  rw [hρ.2 i _ hl]
  show (match hasP t (m.map fun p => (ek p.1, e p.2)) (ek key) with
      | some b => R.ok (Vl.d (.bool (kf b))) S
      | none => .no) = _
  rw [hasP_ty hk]
  rfl
theorem xp_has (hk : KeyE t ek) (hl : look i Γ = some (vM t ek e m)) (h : XP n Γ x (vD ek key)) : XP n Γ (eHas i x) (vD PyData.bool (getL m key).isSome) := xp_hasK (kf := id) hk hl h
theorem xp_hasN (hk : KeyE t ek) (hl : look i Γ = some (vM t ek e m)) (h : XP n Γ x (vD ek key)) : XP n Γ (eHasN i x) (vD PyData.bool (!(getL m key).isSome)) := xp_hasK (kf := not) hk hl h
end
end Sm
namespace Sm
open PySem PySem.Spec PyProof.Rows L2 Lf
/-! ## what is to be shown later -/
open Classical in
noncomputable def believe {α : Type} (p : Prop) (x : α) : TM α := if p then pure x else TM.fail
theorem believe_ok {α : Type} {p : Prop} {x : α} (h : p) : believe p x = pure x := if_pos h
theorem believe_ty {α : Type} {enc : α → Vl} {x : α} {r : Sto → R Vl} {S : Sto} : Rf enc (believe (∀ S, r S = .ok (enc x) S) x S) (r S) := by
  unfold believe
  by_cases h : ∀ S, r S = .ok (enc x) S
  · rw [if_pos h]; exact h S
  · rw [if_neg h]; trivial
/-- the draws: what is drawn next, of a store -/
def drawT (F : Fn) (low : Int) : TM Int := fun S => match F [.c 0, .d (.int low)] S with
  | .ok (.d (.int r)) S' => .ok r S'
  | _ => .no
theorem draw_ty {F : Fn} {low : Int} {S : Sto} : Rf (vD PyData.int) (drawT F low S) (F [.c 0, .d (.int low)] S) := by
  unfold drawT
  split
  · rename_i h; rw [h]; exact rfl
  · trivial
/-! pairs out of lists -/
def pairT {α : Type} : List α → TM (α × α)
  | [a, b] => pure (a, b)
  | _ => TM.fail
theorem XE.pair {α : Type} {n : Nat} {Γ : Ctx} {a : Ex} {k : Bool} {e : α → PyData} {t : TM (List α)} (h : XE n Γ a (vD (eSq k e)) t) : XE n Γ a (vD (eP2 k e e)) (t >>= pairT) := fun ρ S hρ => by
  have := h ρ S hρ
  show Rf _ (R.bind (t S) _) _
  cases et : t S with
  | ok x S' =>
    rw [et] at this
    show Rf _ (pairT x S') _
    unfold pairT
    split
    · exact this
    · trivial
  | er x S' => rw [et] at this; exact this
  | no => trivial
end Sm

set_option maxHeartbeats 4000000
namespace Sm
open PySem PySem.Spec PyProof.Rows L2 Lf

/-! ## dict comprehensions -/
section
variable {n : Nat} {Γ Γ' : Ctx} {α β κ : Type} [DecidableEq κ] {e : α → PyData} {f : β → PyData} {ek : κ → PyData}
variable {pt : Tg} {fi : Ix} {tt : Env → M Bool} {kx vx : Ex} {vs : List Nat} {G : α → Ctx}
def dcM (tt : α → TM Bool) (tk : α → TM κ) (tv : α → TM β) : List α → List (κ × β) → TM (List (κ × β))
  | [], acc => pure acc
  | x :: xs, acc => (tt x).quiet >>= fun c => if c then ((tk x).quiet >>= fun k => (tv x).quiet >>= fun v => dcM tt tk tv xs (putL acc k v)) else dcM tt tk tv xs acc
def dcP (p : α → Bool) (gk : α → κ) (gv : α → β) : List α → List (κ × β) → List (κ × β)
  | [], acc => acc
  | x :: xs, acc => if p x then dcP p gk gv xs (putL acc (gk x) (gv x)) else dcP p gk gv xs acc
theorem dcM_pure (p : α → Bool) (gk : α → κ) (gv : α → β) : ∀ (xs : List α) (acc : List (κ × β)), dcM (fun x => pure (p x)) (fun x => pure (gk x)) (fun x => pure (gv x)) xs acc = pure (dcP p gk gv xs acc)
  | [], _ => rfl
  | x :: xs, acc => by
    unfold dcM dcP
    rw [quiet_pure, quiet_pure, quiet_pure, pure_bind]
    cases p x with
    | true => rw [if_pos rfl, if_pos rfl, pure_bind, pure_bind, dcM_pure]
    | false => rw [if_neg (by simp), if_neg (by simp), dcM_pure]
theorem dcM_no (tt : α → TM Bool) (tk : α → TM κ) (tv : α → TM β) : ∀ (xs : List α) (acc : List (κ × β)), NoEr (dcM tt tk tv xs acc)
  | [], _ => pure_no
  | x :: xs, acc => by
    unfold dcM
    refine bind_no quiet_no fun c => ?_
    cases c
    · exact dcM_no tt tk tv xs acc
    · exact bind_no quiet_no fun k => bind_no quiet_no fun v => dcM_no tt tk tv xs _
theorem dL_ty {ρ : Env} {dk : κ → Key} (h1 : ∀ x, keyOf (ek x) = some (dk x)) (h2 : ∀ x y, dk x = dk y → x = y) (tt' : α → TM Bool) (tk : α → TM κ) (tv : α → TM β) (hρ : Ag n Γ ρ) (hw : SubW vs Γ' Γ) (hg : ∀ x, TG n pt (e x) (G x)) (ht : ∀ x, XT n (G x ++ Γ') tt (tt' x)) (hk : ∀ x, XE n (G x ++ Γ') kx (vD ek) (tk x)) (he : ∀ x, XE n (G x ++ Γ') vx (vD f) (tv x)) :
    ∀ (xs : List α) (acc : List (κ × β)) (S : Sto), Rf (fun (m : List (κ × β)) => m.map fun p => (dk p.1, f p.2)) (dcM tt' tk tv xs acc S) (dL pt tt kx vx vs ρ (xs.map e) (acc.map fun p => (dk p.1, f p.2)) S)
  | [], acc, S => rfl
  | x :: xs, acc, S => by
    have ih := dL_ty h1 h2 tt' tk tv hρ hw hg ht hk he xs
    obtain ⟨ρ1, e1, a1⟩ := hg x Γ' _ (hρ.wipe hw)
    show Rf _ (R.bind ((tt' x S).quiet) _) _
    rw [List.map_cons]
    unfold dL
    rw [e1]
    dsimp only
    have q1 := ht x ρ1 S a1
    cases e2 : tt' x S with
    | no => trivial
    | er _ _ => trivial
    | ok c S1 =>
      rw [e2] at q1
      rw [show tt ρ1 S = _ from q1]
      cases c with
      | false => exact ih acc S1
      | true =>
        show Rf _ (R.bind ((tk x S1).quiet) _) _
        have q2 := hk x ρ1 S1 a1
        cases e3 : tk x S1 with
        | no => trivial
        | er _ _ => trivial
        | ok k S2 =>
          rw [e3] at q2
          dsimp only [id]
          rw [show kx ρ1 S1 = _ from q2]
          show Rf _ (R.bind ((tv x S2).quiet) _) (match keyOf (ek k) with
            | none => .no
            | some k => match vx ρ1 S2 with
              | .ok (.d y) S3 => dL pt tt kx vx vs ρ (xs.map e) (putD _ k y) S3
              | _ => .no)
          rw [h1]
          dsimp only
          have q3 := he x ρ1 S2 a1
          cases e4 : tv x S2 with
          | no => trivial
          | er _ _ => trivial
          | ok v S3 =>
            rw [e4] at q3
            rw [show vx ρ1 S2 = _ from q3]
            show Rf _ (dcM tt' tk tv xs (putL acc k v) S3) (dL pt tt kx vx vs ρ (xs.map e) (putD (acc.map fun p => (dk p.1, f p.2)) (dk k) (f v)) S3)
            rw [putD_map dk h2]
            exact ih _ S3
theorem limK_ty {t : TM (List (κ × β))} (hn : NoEr t) {dk : κ → Key} (h1 : ∀ x, keyOf (ek x) = some (dk x)) {r : R KD} {S : Sto} {ds : List PyData} (h : Rf (fun (m : List (κ × β)) => m.map fun p => (dk p.1, f p.2)) (t S) r) : Rf (vD (eM ek f)) ((t >>= fun m => okT (decide (ds.length ≤ big)) m) S) (limK ds r) := by
  rw [tm_bind]
  cases et : t S with
  | no => trivial
  | er e S' => exact absurd et (hn _ _ _)
  | ok m S1 =>
    rw [et] at h
    rw [show r = _ from h]
    refine okT_ty ?_
    show (if ds.length ≤ big then _ else _) = _
    have : encK (m.map fun p => (dk p.1, f p.2)) = m.map fun p => (ek p.1, f p.2) := by
      unfold encK
      rw [List.map_map]
      refine List.map_congr_left fun p _ => ?_
      show (kD (dk p.1), f p.2) = _
      rw [← keyOf_eq (h1 p.1)]
    rw [this]
    rfl
theorem x_dc {ti : TM (List α)} {tt' : α → TM Bool} {tk : α → TM κ} {tv : α → TM β} (hK : KeyE false ek) (hi : XI n Γ fi e ti) (hw : SubW vs Γ' Γ) (hg : ∀ x, TG n pt (e x) (G x)) (ht : ∀ x, XT n (G x ++ Γ') tt (tt' x)) (hk : ∀ x, XE n (G x ++ Γ') kx (vD ek) (tk x)) (he : ∀ x, XE n (G x ++ Γ') vx (vD f) (tv x)) :
    XE n Γ (eDc pt fi tt kx vx vs) (vD (eM ek f)) (ti >>= fun xs => dcM tt' tk tv xs [] >>= fun m => okT (decide (xs.length ≤ big)) m) := fun ρ S hρ => by
  obtain ⟨dk, h1, h2⟩ := hK
  refine Rf.bind (hi ρ S hρ) fun xs S1 => ?_
  have := limK_ty (ds := xs.map e) (dcM_no tt' tk tv xs []) h1 (dL_ty h1 h2 tt' tk tv hρ hw hg ht hk he xs [] S1)
  rw [List.length_map] at this
  exact this
/-- over the keys of a dict by name -/
theorem x_dcK {i : Nat} {γ : Type} {ev : γ → PyData} {m : List (κ × γ)} {κ' : Type} [DecidableEq κ'] {ek' : κ' → PyData} {G : κ → Ctx} {tt' : κ → TM Bool} {tk : κ → TM κ'} {tv : κ → TM β} (hK0 : KeyE false ek) (hK : KeyE false ek') (hl : look i Γ = some (vD (eM ek ev) m)) (hw : SubW vs Γ' Γ) (hg : ∀ x, TG n pt (ek x) (G x)) (ht : ∀ x, XT n (G x ++ Γ') tt (tt' x)) (hk : ∀ x, XE n (G x ++ Γ') kx (vD ek') (tk x)) (he : ∀ x, XE n (G x ++ Γ') vx (vD f) (tv x)) :
    XE n Γ (eDcK i pt tt kx vx vs) (vD (eM ek' f)) (okT (!m.isEmpty) (m.map (·.1)) >>= fun xs => dcM tt' tk tv xs [] >>= fun r => okT (decide (xs.length ≤ big)) r) := fun ρ S hρ => by
  obtain ⟨dk0, a1, a2⟩ := hK0
  obtain ⟨dk, h1, h2⟩ := hK
  unfold eDcK
  rw [hρ.2 i _ hl]
  show Rf _ _ (match decK (m.map fun p => (ek p.1, ev p.2)) with
    | some (q :: l) => limK ((keysD (q :: l)).map kD) (dL pt tt kx vx vs ρ ((keysD (q :: l)).map kD) [] S)
    | _ => .no)
  rw [decK_map a1]
  cases m with
  | nil => trivial
  | cons p m =>
    have hkeys : (keysD (((p :: m).map fun p => (dk0 p.1, ev p.2)))).map kD = ((p :: m).map (·.1)).map ek := by
      unfold keysD
      rw [List.map_map, List.map_map, List.map_map]
      refine List.map_congr_left fun q _ => ?_
      show kD (dk0 q.1) = ek q.1
      rw [← keyOf_eq (a1 q.1)]
    show Rf _ _ (limK ((keysD (((p :: m).map fun p => (dk0 p.1, ev p.2)))).map kD) (dL pt tt kx vx vs ρ ((keysD (((p :: m).map fun p => (dk0 p.1, ev p.2)))).map kD) [] S))
    rw [hkeys]
    show Rf _ ((dcM tt' tk tv ((p :: m).map (·.1)) [] >>= fun r => okT (decide (((p :: m).map (·.1)).length ≤ big)) r) S) _
    have := limK_ty (ds := ((p :: m).map (·.1)).map ek) (dcM_no tt' tk tv ((p :: m).map (·.1)) []) h1 (dL_ty (e := ek) h1 h2 tt' tk tv hρ hw hg ht hk he ((p :: m).map (·.1)) [] S)
    rw [List.length_map] at this
    exact this
end
/-! ## ascending -/
def ascB : Sx := (sRet (eArgs (liftA fTuple) (asCons (e1 (lift1 ssA) (eV 0)) asNil)))
def ascF : Fn := runF 1 ascB
section
variable {k : Bool} {α : Type} {e : α → PyData}
theorem asc_ty {v : PyData} {p : Bool} {ys : List α} (h : p = true → ssA v = some (eSq false e ys)) (S : Sto) : Rf (vD (eSq true e)) (okT p ys S) (ascF [.d v] S) := by
  have h2 : XE 1 [(0, .d v)] (eArgs (liftA fTuple) (asCons (e1 (lift1 ssA) (eV 0)) asNil)) (vD (eSq true e)) (okT p ys >>= fun y => pure y) :=
    xa_m (x1_p (enc := vD (eSq false e)) (xp_var rfl) (ok1 h)) fun x => xa_nil fun S => prA1 (fTuple_sq (k := false) (e := e) x) S
  rw [bind_pure] at h2
  exact fn_ty (n := 1) (Γ0 := [(0, .d v)]) (te := okT p ys) (b := ascB) (b_last (b_retT h2 fun _ => rfl)) (hΓ := ⟨rfl, trivial⟩)
theorem ascI_ty (ns : List Int) (S : Sto) : Rf (vD (eSq true PyData.int)) (okT (decide (ns.length < 64)) (ascI ns) S) (ascF [vD (eSq k PyData.int) ns] S) := asc_ty (ssA_int ns) S
theorem ascS_ty (ns : List Str) (S : Sto) : Rf (vD (eSq true PyData.str)) (okT (decide (ns.length ≤ 4000)) (ascT ns) S) (ascF [vD (eSq k PyData.str) ns] S) := asc_ty (ssA_str ns) S
theorem ascT_ty (T : TupE e) (xs : List α) (S : Sto) : Rf (vD (eSq true e)) (okT (keyTB (xs.map e) && sortable (xs.map e) && decide (xs.length < 64)) (ascE e xs) S) (ascF [vD (eSq k e) xs] S) := asc_ty (ssA_tup T xs) S
end
end Sm

set_option maxHeartbeats 4000000
namespace Sm
open PySem PySem.Spec PyProof.Rows L2 Lf

/-! ## lists that are popped -/
def popI {α : Type} (ys : List α) (r : Int) : Option (α × List α) := (ixN ys.length r).bind fun n => (ys[n]?).map fun y => (y, ys.eraseIdx n)
theorem map_erase {α β : Type} (f : α → β) : ∀ (xs : List α) (i : Nat), (xs.eraseIdx i).map f = (xs.map f).eraseIdx i
  | [], _ => rfl
  | _ :: _, 0 => rfl
  | x :: xs, i + 1 => by
    rw [List.eraseIdx_cons_succ, List.map_cons, List.map_cons, List.eraseIdx_cons_succ, map_erase f xs i]
section
variable {n i j : Nat} {Γ : Ctx} {τ α β : Type} {Φ : Ph τ} {a ek : Ex} {r : Sx} {t : TM τ} {e : α → PyData} {k : Bool} {xs ys : List α}
theorem b_new2 {e' : β → PyData} (hi : i < n) (hj : j < n) (ha : XP n Γ a (vD (eSq k e) xs)) (h : Blk n ((j, vO e' []) :: (i, vO e xs) :: Γ) r Φ t) : Blk n Γ (sSeq (sNew2 i j (eArgs ownOf (asCons a asNil)) (eArgs mkOwn asNil)) r) Φ t := fun ρ S hρ => by
  have h2 := h _ S ((hρ.set hi).set hj)
  have e1 : eArgs ownOf (asCons a asNil) ρ S = .ok (vO e xs) S := by
    show R.bind (R.bind (a ρ S) _) _ = _
    rw [ha ρ S hρ]
    cases k <;> rfl
  unfold sSeq sNew2
  rw [e1]
  exact h2
theorem b_apppop {tk : TM Int} {kk : α × List α → TM τ} (g : Gd Φ) (hij : i ≠ j) (hi : i < n) (hj : j < n) (hl : look i Γ = some (vO e xs)) (hl2 : look j Γ = some (vO e ys)) (hk : XE n Γ ek (vD PyData.int) tk)
    (h : ∀ p : α × List α, Blk n ((i, vO e (xs ++ [p.1])) :: (j, vO e p.2) :: Γ) r Φ (kk p)) : Blk n Γ (sSeq (sAppPop i j ek) r) Φ (tk >>= fun q => okT (decide (xs.length ≤ big ∧ ys.length ≤ big)) () >>= fun _ => someT (popI ys q) >>= kk) := fun ρ S hρ => by
  have h0 := hk ρ S hρ
  have hs : sAppPop i j ek ρ S = sE (ek ρ S) ρ fun z S1 => match z with
      | .d (.int r) => match ixN ys.length r with
          | some n => match (ys.map e)[n]? with
            | some y => if xs.length ≤ big ∧ ys.length ≤ big then some (.nx, (ρ.set j (some (.o ((ys.map e).eraseIdx n)))).set i (some (.o (xs.map e ++ [y]))), S1) else none
            | none => none
          | none => none
      | _ => none := by
    unfold sAppPop
    rw [hρ.2 i _ hl, hρ.2 j _ hl2]
    show sE (ek ρ S) ρ (fun z S1 => match z with
      | .d (.int r) => match ixN (ys.map e).length r with
          | some n => match (ys.map e)[n]? with
            | some y => if (xs.map e).length ≤ big ∧ (ys.map e).length ≤ big then some (Out.nx, (ρ.set j (some (.o ((ys.map e).eraseIdx n)))).set i (some (.o (xs.map e ++ [y]))), S1) else none
            | none => none
          | none => none
      | _ => none) = _
    rw [List.length_map, List.length_map]
  unfold sSeq
  rw [hs, tm_bind]
  cases et : tk S with
  | ok q S' =>
    rw [et] at h0
    rw [show ek ρ S = _ from h0]
    show Φ _ (match (match ixN ys.length q with
          | some n => match (ys.map e)[n]? with
            | some y => if xs.length ≤ big ∧ ys.length ≤ big then some (Out.nx, (ρ.set j (some (Vl.o ((ys.map e).eraseIdx n)))).set i (some (.o (xs.map e ++ [y]))), S') else none
            | none => none
          | none => none) with | some (.nx, ρ', S') => r ρ' S' | some q => some q | none => none)
    show Φ (R.bind (okT (decide (xs.length ≤ big ∧ ys.length ≤ big)) () S') fun _ S2 => (someT (popI ys q) >>= kk) S2) _
    by_cases c : xs.length ≤ big ∧ ys.length ≤ big
    · rw [decide_eq_true c]
      show Φ ((someT (popI ys q) >>= kk) S') _
      unfold popI
      cases e2 : ixN ys.length q with
      | none => exact g.no _
      | some m =>
        cases e3 : ys[m]? with
        | none => simp only [Option.bind_some, e3, Option.map_none]; exact g.no _
        | some y =>
          simp only [Option.bind_some, e3, Option.map_some]
          have h2 := h (y, ys.eraseIdx m) _ S' ((hρ.set hj).set hi)
          rw [show (ys.map e)[m]? = some (e y) by rw [List.getElem?_map, e3]; rfl]
          dsimp only
          rw [if_pos c]
          have e4 : vO e (xs ++ [y]) = .o (xs.map e ++ [e y]) := by unfold vO; rw [List.map_append]; rfl
          have e5 : vO e (ys.eraseIdx m) = .o ((ys.map e).eraseIdx m) := by
            show Vl.o ((ys.eraseIdx m).map e) = _
            rw [map_erase]
          rw [e4, e5] at h2
          exact h2
    · rw [decide_eq_false c]
      exact g.no _
  | er x S' => rw [et] at h0; rw [show ek ρ S = _ from h0]; exact g.er _ _ _
  | no => exact g.no _
end
/-! ## check_islands -/
def t_check_islands (ss ns : List Str) : TM Unit := okT (decide (ss.length ≤ 900 ∧ ∀ n ∈ ns, n ∈ ss)) ()
theorem ty_check_islands (k1 k2 : Bool) (ss ns : List Str) (S : Sto) : Rf (vD eU) (t_check_islands ss ns S) (f_check_islands [vD (eSq k1 PyData.str) ss, vD (eSq k2 PyData.str) ns] S) := by
  have h1 : ∀ (k : Bool) (xs : List Str), seqStrs (eSq k PyData.str xs) = some xs := fun k xs => by
    cases k
    · exact asStrs_map' xs
    · exact asStrs_map' xs
  refine okT_ty ?_
  show (match seqStrs (eSq k1 PyData.str ss), seqStrs (eSq k2 PyData.str ns) with
    | some ss, some ns => if ss.length ≤ 900 ∧ ∀ n ∈ ns, n ∈ ss then R.ok (Vl.d .none) S else .no
    | _, _ => .no) = _
  rw [h1, h1]
  rfl
/-! ## lists of mixed data -/
theorem toD {α : Type} {k : Bool} {e : α → PyData} {xs : List α} : vD (eSq k eId) (xs.map e) = vD (eSq k e) xs := by
  unfold vD eSq
  rw [List.map_map]
  rfl
theorem XP.toD {α : Type} {n : Nat} {Γ : Ctx} {a : Ex} {k : Bool} {e : α → PyData} {xs : List α} (h : XP n Γ a (vD (eSq k e) xs)) : XP n Γ a (vD (eSq k eId) (xs.map e)) := by rw [Sm.toD]; exact h
theorem XE.toD {α : Type} {n : Nat} {Γ : Ctx} {a : Ex} {k : Bool} {e : α → PyData} {t : TM (List α)} (h : XE n Γ a (vD (eSq k e)) t) : XE n Γ a (vD (eSq k eId)) (t >>= fun xs => pure (xs.map e)) := XE.map (g := fun xs : List α => xs.map e) h fun _ => Sm.toD
theorem repL_ok {α : Type} {e : α → PyData} (xs : List α) (k : Int) (h : decide (0 ≤ k ∧ k ≤ 1000 ∧ xs.length ≤ 1000) = true) : repL (eSq false e xs) (.int k) = some (eSq false e (List.replicate k.toNat xs).flatten) := by
  show (if 0 ≤ k ∧ k ≤ 1000 ∧ (xs.map e).length ≤ 1000 then some (PyData.list (List.replicate k.toNat (xs.map e)).flatten) else none) = some (.list _)
  rw [List.length_map, if_pos (of_decide_eq_true h), List.map_flatten, List.map_replicate]
end Sm
namespace Sm
open PySem PySem.Spec PyProof.Rows L2 Lf
/-! ## displays with stars -/
theorem datas_map (ds : List PyData) : datas (ds.map Vl.d) = some ds := by
  induction ds with
  | nil => rfl
  | cons d ds ih =>
    show (match datas (ds.map Vl.d) with | some xs => some (d :: xs) | none => none) = _
    rw [ih]
theorem mkTup_ok {α : Type} {e : α → PyData} {zs : List α} {vs : List Vl} (h : vs = (zs.map e).map Vl.d) (S : Sto) : Rf (vD (eSq true e)) (okT (decide (zs.length ≤ big)) zs S) (mkTup vs S) := by
  subst h
  refine okT_ty ?_
  unfold mkTup
  rw [datas_map]
  show (if (zs.map e).length ≤ big then _ else _) = _
  rw [List.length_map]
  rfl
theorem mkLst_ok {α : Type} {e : α → PyData} {zs : List α} {vs : List Vl} (h : vs = (zs.map e).map Vl.d) (S : Sto) : Rf (vD (eSq false e)) (okT (decide (zs.length ≤ big)) zs S) (mkLst vs S) := by
  subst h
  refine okT_ty ?_
  unfold mkLst
  rw [datas_map]
  show (if (zs.map e).length ≤ big then _ else _) = _
  rw [List.length_map]
  rfl
section
variable {α : Type} {e : α → PyData}
theorem star_seT (xs : List α) (x : α) (S : Sto) : Rf (vD (eSq true e)) (okT (decide ((xs ++ [x]).length ≤ big)) (xs ++ [x]) S) (mkTup ((xs.map e).map Vl.d ++ [vD e x]) S) := mkTup_ok (by simp [vD]) S
theorem star_seL (xs : List α) (x : α) (S : Sto) : Rf (vD (eSq false e)) (okT (decide ((xs ++ [x]).length ≤ big)) (xs ++ [x]) S) (mkLst ((xs.map e).map Vl.d ++ [vD e x]) S) := mkLst_ok (by simp [vD]) S
theorem star_esT (xs : List α) (x : α) (S : Sto) : Rf (vD (eSq true e)) (okT (decide (([x] ++ xs).length ≤ big)) ([x] ++ xs) S) (mkTup (vD e x :: (xs.map e).map Vl.d ++ []) S) := mkTup_ok (by simp [vD]) S
theorem star_esL (xs : List α) (x : α) (S : Sto) : Rf (vD (eSq false e)) (okT (decide (([x] ++ xs).length ≤ big)) ([x] ++ xs) S) (mkLst (vD e x :: (xs.map e).map Vl.d ++ []) S) := mkLst_ok (by simp [vD]) S
theorem star_ssT (xs ys : List α) (S : Sto) : Rf (vD (eSq true e)) (okT (decide ((xs ++ ys).length ≤ big)) (xs ++ ys) S) (mkTup ((xs.map e).map Vl.d ++ ((ys.map e).map Vl.d ++ [])) S) := mkTup_ok (by simp) S
theorem star_ssL (xs ys : List α) (S : Sto) : Rf (vD (eSq false e)) (okT (decide ((xs ++ ys).length ≤ big)) (xs ++ ys) S) (mkLst ((xs.map e).map Vl.d ++ ((ys.map e).map Vl.d ++ [])) S) := mkLst_ok (by simp) S
end
end Sm
namespace Sm
open PySem PySem.Spec PyProof.Rows L2 Lf
section
variable {n : Nat} {Γ : Ctx} {a : Ex} {α β : Type} {e : α → PyData} {k : Bool} {f : List Vl → M Vl} {r : Exs} {enc : β → Vl} {ta : TM (List α)} {kk : List α → TM β}
theorem eArgs_starM {ρ : Env} {S : Sto} : eArgs f (asStar a r) ρ S = R.bind (a ρ S) fun x S1 => R.bind (asStar (fun _ _ => .ok x S1) r ρ S1) f := by
  show R.bind (R.bind (a ρ S) _) f = R.bind (a ρ S) _
  rw [bind_assocR]
  rfl
theorem xa_starM (ha : XE n Γ a (vD (eSq k e)) ta) (h : ∀ xs, XE n Γ (eArgs (fun zs => f ((xs.map e).map Vl.d ++ zs)) r) enc (kk xs)) : XE n Γ (eArgs f (asStar a r)) enc (ta >>= kk) := fun ρ S hρ => by
  have h1 := ha ρ S hρ
  rw [eArgs_starM, tm_bind]
  cases et : ta S with
  | ok xs S' =>
    rw [et] at h1
    rw [show a ρ S = _ from h1]
    have h2 := eArgs_star (f := f) (r := r) (a := fun _ _ => .ok (vD (eSq k e) xs) S') (ρ := ρ) (S := S') (kk := k) (ds := xs.map e) rfl
    show Rf enc (kk xs S') (eArgs f (asStar (fun _ _ => .ok (vD (eSq k e) xs) S') r) ρ S')
    rw [h2]
    exact h xs ρ S' hρ
  | er x S' => rw [et] at h1; rw [show a ρ S = _ from h1]; exact rfl
  | no => trivial
theorem eqF_o [DecidableEq α] (E : EqE e) (xs ys : List α) (S : Sto) : Rf (vD PyData.bool) (okT (shp (eSq false e xs) && shp (eSq false e ys)) (decide (xs = ys)) S) (lift2 eqF (vO e xs) (vD (eSq false e) ys) S) := by
  show Rf _ _ (lift (eqF (eSq false e xs) (eSq false e ys)) S)
  exact okT_lift (eqF_ok (eqSq E) xs ys) S
end
end Sm

set_option maxHeartbeats 4000000
namespace Sm
open PySem PySem.Spec PyProof.Rows L2 Lf
noncomputable def t_marks_alone (p_islands : (List Str)) : TM (List (Str × Str)) :=
  ((pure p_islands) >>= fun xs_ => dcM (fun (a1 : Str) => pure true) (fun (a1 : Str) => (pure a1 : TM Str)) (fun (a1 : Str) => (pure a1 : TM Str)) xs_ [] >>= fun m_ => okT (decide (xs_.length ≤ big)) m_)
theorem ty_marks_alone (k1 : Bool) (p_islands : (List Str)) (S : Sto) : Rf (vD (eM PyData.str PyData.str)) (t_marks_alone p_islands S) (f_marks_alone [(vD (eSq k1 PyData.str) p_islands)] S) := by
  refine fn_ty (n := 2) (Γ0 := [(0, (vD (eSq k1 PyData.str) p_islands))]) (te := t_marks_alone p_islands) (b := b_marks_alone) ?_ (hΓ := ⟨rfl, trivial⟩)
  unfold b_marks_alone t_marks_alone
  exact (b_last (b_retT (encE := vD (eM PyData.str PyData.str)) (enc := vD (eM PyData.str PyData.str)) (x_dc (G := fun (a1 : Str) => [(1, (vD PyData.str a1))]) (Γ' := [(0, (vD (eSq k1 PyData.str) p_islands))]) keyS (xi_seq (xp_var (i := 0) (v := (vD (eSq k1 PyData.str) p_islands)) rfl)) ⟨⟨rfl, rfl⟩, trivial⟩ (fun a1 => (tg_n (by decide))) (fun a1 => yes_ty.xt) (fun a1 => ((xp_var (i := 1) (v := (vD PyData.str a1)) rfl)).xe) (fun a1 => ((xp_var (i := 1) (v := (vD PyData.str a1)) rfl)).xe)) (fun _ => rfl)))
noncomputable def t_joins (p_marks : (List (Str × Str))) (p_pair : (Str × Str)) : TM Bool :=
  ((someT (getL p_marks p_pair.1)) >>= fun x1 => (someT (getL p_marks p_pair.2)) >>= fun x2 => (pure (decide (x1 = x2))))
theorem ty_joins (k1 : Bool) (p_marks : (List (Str × Str))) (p_pair : (Str × Str)) (S : Sto) : Rf (vD PyData.bool) (t_joins p_marks p_pair S) (f_joins [(vD (eM PyData.str PyData.str) p_marks), (vD (eP2 k1 PyData.str PyData.str) p_pair)] S) := by
  refine fn_ty (n := 2) (Γ0 := [(0, (vD (eM PyData.str PyData.str) p_marks)), (1, (vD (eP2 k1 PyData.str PyData.str) p_pair))]) (te := t_joins p_marks p_pair) (b := b_joins) ?_ (hΓ := ⟨rfl, rfl, trivial⟩)
  unfold b_joins t_joins
  exact (b_last (b_retT (encE := vD PyData.bool) (enc := vD PyData.bool) (x2_m (enc := vD PyData.bool) (x2_p (enc := vD PyData.str) (xp_var (i := 0) (v := (vD (eM PyData.str PyData.str) p_marks)) rfl) (x1_p (enc := vD PyData.str) (xp_2 (u := vD PyData.str p_pair.1) (xp_var (i := 1) (v := (vD (eP2 k1 PyData.str PyData.str) p_pair)) rfl) xp_k (pr2 (ixAll_p0 _))) (mr2 (ixAll_m keyS _ _)))) (fun x1 => x1_m (enc := vD PyData.bool) (x2_p (enc := vD PyData.str) (xp_var (i := 0) (v := (vD (eM PyData.str PyData.str) p_marks)) rfl) (x1_p (enc := vD PyData.str) (xp_2 (u := vD PyData.str p_pair.2) (xp_var (i := 1) (v := (vD (eP2 k1 PyData.str PyData.str) p_pair)) rfl) xp_k (pr2 (ixAll_p1 _))) (mr2 (ixAll_m keyS _ _)))) (fun x2 S => (pr2 (eqF_s _ _)) S))) (fun _ => rfl)))
noncomputable def t_merged (p_marks : (List (Str × Str))) (p_pair : (Str × Str)) : TM (List (Str × Str)) :=
  (((((someT (getL p_marks p_pair.1)) >>= fun x1 => ((someT (getL p_marks p_pair.2)) >>= fun x2 => (pure ([x1, x2] : List Str)))) >>= fun x3 => (okT (decide ((x3).length < 64)) (sortT x3))) >>= pairT) >>= fun (y4 : (Str × Str)) => (okT (!(p_marks).isEmpty) ((p_marks).map (·.1)) >>= fun xs_ => dcM (fun (a5 : Str) => pure true) (fun (a5 : Str) => (pure a5 : TM Str)) (fun (a5 : Str) => (((someT (getL p_marks a5)) >>= fun x6 => (pure (decide (x6 = y4.2)))) >>= fun x7 => if x7 then (pure y4.1 : TM Str) else (someT (getL p_marks a5)))) xs_ [] >>= fun m_ => okT (decide (xs_.length ≤ big)) m_))
theorem ty_merged (k1 : Bool) (p_marks : (List (Str × Str))) (p_pair : (Str × Str)) (S : Sto) : Rf (vD (eM PyData.str PyData.str)) (t_merged p_marks p_pair S) (f_merged [(vD (eM PyData.str PyData.str) p_marks), (vD (eP2 k1 PyData.str PyData.str) p_pair)] S) := by
  refine fn_ty (n := 5) (Γ0 := [(0, (vD (eM PyData.str PyData.str) p_marks)), (1, (vD (eP2 k1 PyData.str PyData.str) p_pair))]) (te := t_merged p_marks p_pair) (b := b_merged) ?_ (hΓ := ⟨rfl, rfl, trivial⟩)
  unfold b_merged t_merged
  exact (b_asg (enc := (eP2 false PyData.str PyData.str)) (G := fun (y4 : (Str × Str)) => (([] ++ [(3, (vD PyData.str y4.2))]) ++ [(2, (vD PyData.str y4.1))])) gdT (XE.pair (xa_m (enc := vD (eSq false PyData.str)) (xa_m (enc := vD (eSq false PyData.str)) (x2_p (enc := vD PyData.str) (xp_var (i := 0) (v := (vD (eM PyData.str PyData.str) p_marks)) rfl) (x1_p (enc := vD PyData.str) (xp_2 (u := vD PyData.str p_pair.1) (xp_var (i := 1) (v := (vD (eP2 k1 PyData.str PyData.str) p_pair)) rfl) xp_k (pr2 (ixAll_p0 _))) (mr2 (ixAll_m keyS _ _)))) (fun x1 => (xa_m (enc := vD (eSq false PyData.str)) (x2_p (enc := vD PyData.str) (xp_var (i := 0) (v := (vD (eM PyData.str PyData.str) p_marks)) rfl) (x1_p (enc := vD PyData.str) (xp_2 (u := vD PyData.str p_pair.2) (xp_var (i := 1) (v := (vD (eP2 k1 PyData.str PyData.str) p_pair)) rfl) xp_k (pr2 (ixAll_p1 _))) (mr2 (ixAll_m keyS _ _)))) (fun x2 => (xa_nil (enc := vD (eSq false PyData.str)) (fun _ => rfl)))))) (fun x3 => (xa_nil (enc := vD (eSq false PyData.str)) (okA1 (fSortedB_str _)))))) (fun y4 => (tg_t (tgs_cons (tg_n (by decide)) (tgs_cons (tg_n (by decide)) tgs_nil)))) (fun y4 => (b_last (b_retT (encE := vD (eM PyData.str PyData.str)) (enc := vD (eM PyData.str PyData.str)) (x_dcK (i := 0) (m := p_marks) (G := fun (a5 : Str) => [(4, (vD PyData.str a5))]) (Γ' := [(0, (vD (eM PyData.str PyData.str) p_marks)), (1, (vD (eP2 k1 PyData.str PyData.str) p_pair)), (2, (vD PyData.str y4.1)), (3, (vD PyData.str y4.2))]) keyS keyS rfl ⟨⟨rfl, rfl⟩, ⟨rfl, rfl⟩, ⟨rfl, rfl⟩, ⟨rfl, rfl⟩, trivial⟩ (fun a5 => (tg_n (by decide))) (fun a5 => yes_ty.xt) (fun a5 => ((xp_var (i := 4) (v := (vD PyData.str a5)) rfl)).xe) (fun a5 => (x_if (enc := vD PyData.str) (xt_val (x2_m (enc := vD PyData.bool) (x2_p (enc := vD PyData.str) (xp_var (i := 0) (v := (vD (eM PyData.str PyData.str) p_marks)) rfl) (x1_p (enc := vD PyData.str) (xp_var (i := 4) (v := (vD PyData.str a5)) rfl) (mr2 (ixAll_m keyS _ _)))) (fun x6 => x1_p (enc := vD PyData.bool) (xp_var (i := 3) (v := (vD PyData.str y4.2)) rfl) (pr2 (eqF_s _ _))))) ((xp_var (i := 2) (v := (vD PyData.str y4.1)) rfl)).xe (x2_p (enc := vD PyData.str) (xp_var (i := 0) (v := (vD (eM PyData.str PyData.str) p_marks)) rfl) (x1_p (enc := vD PyData.str) (xp_var (i := 4) (v := (vD PyData.str a5)) rfl) (mr2 (ixAll_m keyS _ _))))))) (fun _ => rfl)))))
noncomputable def t_from_highest (p_fords : (List ((Str × Str) × Int))) : TM (List ((Str × Str) × Int)) :=
  ((((pure p_fords) >>= fun xs_ => limT (xs_.map fun (a1 : ((Str × Str) × Int)) => (a1.2, a1.1))) >>= fun x2 => (okT (sortable ((x2).map (eP2 true PyData.int (eP2 true PyData.str PyData.str)))) (sortE true (eP2 true PyData.int (eP2 true PyData.str PyData.str)) x2))) >>= fun xs_ => limT (xs_.map fun (a3 : (Int × (Str × Str))) => (a3.2, a3.1)))
theorem ty_from_highest (p_fords : (List ((Str × Str) × Int))) (S : Sto) : Rf (vD (eSq false (eP2 true (eP2 true PyData.str PyData.str) PyData.int))) (t_from_highest p_fords S) (f_from_highest [(vD (eSq true (eP2 true (eP2 true PyData.str PyData.str) PyData.int)) p_fords)] S) := by
  refine fn_ty (n := 3) (Γ0 := [(0, (vD (eSq true (eP2 true (eP2 true PyData.str PyData.str) PyData.int)) p_fords))]) (te := t_from_highest p_fords) (b := b_from_highest) ?_ (hΓ := ⟨rfl, trivial⟩)
  unfold b_from_highest t_from_highest
  exact (b_last (b_retT (encE := vD (eSq false (eP2 true (eP2 true PyData.str PyData.str) PyData.int))) (enc := vD (eSq false (eP2 true (eP2 true PyData.str PyData.str) PyData.int))) (x_compP0 (f := (eP2 true (eP2 true PyData.str PyData.str) PyData.int)) (G := fun (a3 : (Int × (Str × Str))) => (([] ++ [(2, (vD (eP2 true PyData.str PyData.str) a3.2))]) ++ [(1, (vD PyData.int a3.1))])) (Γ' := [(0, (vD (eSq true (eP2 true (eP2 true PyData.str PyData.str) PyData.int)) p_fords))]) (xi_seqM (x1_m (enc := vD (eSq false (eP2 true PyData.int (eP2 true PyData.str PyData.str)))) (x_compP0 (f := (eP2 true PyData.int (eP2 true PyData.str PyData.str))) (G := fun (a1 : ((Str × Str) × Int)) => (([] ++ [(1, (vD PyData.int a1.2))]) ++ [(2, (vD (eP2 true PyData.str PyData.str) a1.1))])) (Γ' := [(0, (vD (eSq true (eP2 true (eP2 true PyData.str PyData.str) PyData.int)) p_fords))]) (xi_seq (xp_var (i := 0) (v := (vD (eSq true (eP2 true (eP2 true PyData.str PyData.str) PyData.int)) p_fords)) rfl)) ⟨⟨rfl, rfl⟩, trivial⟩ (fun a1 => (tg_t (tgs_cons (tg_n (by decide)) (tgs_cons (tg_n (by decide)) tgs_nil)))) (fun a1 => (xpa_p (xp_var (i := 1) (v := (vD PyData.int a1.2)) rfl) (xpa_p (xp_var (i := 2) (v := (vD (eP2 true PyData.str PyData.str) a1.1)) rfl) (xpa_nil (v := vD (eP2 true PyData.int (eP2 true PyData.str PyData.str)) (a1.2, a1.1)) (fun _ => rfl)))))) (fun x2 S => (ok1 (fSortD_ok _)) S))) ⟨⟨rfl, rfl⟩, trivial⟩ (fun a3 => (tg_t (tgs_cons (tg_n (by decide)) (tgs_cons (tg_n (by decide)) tgs_nil)))) (fun a3 => (xpa_p (xp_var (i := 2) (v := (vD (eP2 true PyData.str PyData.str) a3.2)) rfl) (xpa_p (xp_var (i := 1) (v := (vD PyData.int a3.1)) rfl) (xpa_nil (v := vD (eP2 true (eP2 true PyData.str PyData.str) PyData.int) (a3.2, a3.1)) (fun _ => rfl)))))) (fun _ => rfl)))
noncomputable def t_last_waters (p_islands : (List Str)) (p_fords : (List ((Str × Str) × Int))) : TM (List ((Str × Str) × Int)) :=
  ((t_marks_alone p_islands) >>= fun (marks_1 : (List (Str × Str))) => ((t_from_highest p_fords) >>= fun xs_ => forT xs_ ((([] : (List ((Str × Str) × Int))), marks_1) : ((List ((Str × Str) × Int)) × (List (Str × Str)))) (fun (a4 : ((Str × Str) × Int)) (s3 : ((List ((Str × Str) × Int)) × (List (Str × Str)))) => (((t_joins s3.2 a4.1) >>= fun x5 => pure (!x5)) >>= fun c16 => (if c16 then ((t_merged s3.2 a4.1) >>= fun (marks_7 : (List (Str × Str))) => ((pure p_fords) >>= fun xs_ => forT xs_ (s3.1 : ((List ((Str × Str) × Int)))) (fun (a10 : ((Str × Str) × Int)) (s9 : ((List ((Str × Str) × Int)))) => ((if (!(getL s9 a10.1).isSome) then (t_joins marks_7 a10.1) else pure false) >>= fun c13 => (if c13 then (okT (decide ((s9).length ≤ big)) () >>= fun _ => (pure (putL s9 a10.1 a4.2))) else (pure s9)) >>= fun (s12 : ((List ((Str × Str) × Int)))) => (pure s12))) >>= fun (s14 : ((List ((Str × Str) × Int)))) => (pure (s14, marks_7)))) else (pure (s3.1, s3.2))) >>= fun (s15 : ((List ((Str × Str) × Int)) × (List (Str × Str)))) => (pure (s15.1, s15.2)))) >>= fun (s17 : ((List ((Str × Str) × Int)) × (List (Str × Str)))) => (pure s17.1)))
theorem ty_last_waters (p_islands : (List Str)) (p_fords : (List ((Str × Str) × Int))) (S : Sto) : Rf (vD (eM (eP2 true PyData.str PyData.str) PyData.int)) (t_last_waters p_islands p_fords S) (f_last_waters [(vD (eSq true PyData.str) p_islands), (vD (eSq true (eP2 true (eP2 true PyData.str PyData.str) PyData.int)) p_fords)] S) := by
  refine fn_ty (n := 8) (Γ0 := [(0, (vD (eSq true PyData.str) p_islands)), (1, (vD (eSq true (eP2 true (eP2 true PyData.str PyData.str) PyData.int)) p_fords))]) (te := t_last_waters p_islands p_fords) (b := b_last_waters) ?_ (hΓ := ⟨rfl, rfl, trivial⟩)
  unfold b_last_waters t_last_waters
  exact (b_map (i := 2) (by decide) (b_set (i := 3) (enc := (eM PyData.str PyData.str)) gdT (by decide) (xa_p (enc := vD (eM PyData.str PyData.str)) (xp_var (i := 0) (v := (vD (eSq true PyData.str) p_islands)) rfl) (xa_nil (enc := vD (eM PyData.str PyData.str)) (fun S => call_ty (ty_marks_alone true p_islands S)))) (fun marks_1 => (b_for (Δ := fun (s2 : ((List ((Str × Str) × Int)) × (List (Str × Str)))) => [(2, (vM true (eP2 true PyData.str PyData.str) PyData.int s2.1)), (3, (vD (eM PyData.str PyData.str) s2.2)), (0, (vD (eSq true PyData.str) p_islands)), (1, (vD (eSq true (eP2 true (eP2 true PyData.str PyData.str) PyData.int)) p_fords))]) (G := fun (a4 : ((Str × Str) × Int)) => (([] ++ [(5, (vD PyData.int a4.2))]) ++ [(4, (vD (eP2 true PyData.str PyData.str) a4.1))])) gdT (xi_seqM (xa_p (enc := vD (eSq false (eP2 true (eP2 true PyData.str PyData.str) PyData.int))) (xp_var (i := 1) (v := (vD (eSq true (eP2 true (eP2 true PyData.str PyData.str) PyData.int)) p_fords)) rfl) (xa_nil (enc := vD (eSq false (eP2 true (eP2 true PyData.str PyData.str) PyData.int))) (fun S => call_ty (ty_from_highest  p_fords S))))) (s0 := (([] : (List ((Str × Str) × Int))), marks_1)) ⟨rfl, rfl, rfl, rfl, trivial⟩ (fun a4 => (tg_t (tgs_cons (tg_n (by decide)) (tgs_cons (tg_n (by decide)) tgs_nil)))) (fun a4 s3 => (b_last (b_if (Δ := fun (s6 : ((List ((Str × Str) × Int)) × (List (Str × Str)))) => [(2, (vM true (eP2 true PyData.str PyData.str) PyData.int s6.1)), (3, (vD (eM PyData.str PyData.str) s6.2)), (0, (vD (eSq true PyData.str) p_islands)), (1, (vD (eSq true (eP2 true (eP2 true PyData.str PyData.str) PyData.int)) p_fords)), (4, (vD (eP2 true PyData.str PyData.str) a4.1)), (5, (vD PyData.int a4.2))]) gdQ (xt_not (xt_val (xa_p (enc := vD PyData.bool) (xp_var (i := 3) (v := (vD (eM PyData.str PyData.str) s3.2)) rfl) (xa_p (enc := vD PyData.bool) (xp_var (i := 4) (v := (vD (eP2 true PyData.str PyData.str) a4.1)) rfl) (xa_nil (enc := vD PyData.bool) (fun S => call_ty (ty_joins true s3.2 a4.1 S))))))) (b_set (i := 3) (enc := (eM PyData.str PyData.str)) gdQ (by decide) (xa_p (enc := vD (eM PyData.str PyData.str)) (xp_var (i := 3) (v := (vD (eM PyData.str PyData.str) s3.2)) rfl) (xa_p (enc := vD (eM PyData.str PyData.str)) (xp_var (i := 4) (v := (vD (eP2 true PyData.str PyData.str) a4.1)) rfl) (xa_nil (enc := vD (eM PyData.str PyData.str)) (fun S => call_ty (ty_merged true s3.2 a4.1 S))))) (fun marks_7 => (b_last (b_for (Δ := fun (s8 : ((List ((Str × Str) × Int)))) => [(2, (vM true (eP2 true PyData.str PyData.str) PyData.int s8)), (0, (vD (eSq true PyData.str) p_islands)), (1, (vD (eSq true (eP2 true (eP2 true PyData.str PyData.str) PyData.int)) p_fords)), (3, (vD (eM PyData.str PyData.str) marks_7)), (4, (vD (eP2 true PyData.str PyData.str) a4.1)), (5, (vD PyData.int a4.2))]) (G := fun (a10 : ((Str × Str) × Int)) => (([] ++ [(7, (vD PyData.int a10.2))]) ++ [(6, (vD (eP2 true PyData.str PyData.str) a10.1))])) gdQ (xi_seq (xp_var (i := 1) (v := (vD (eSq true (eP2 true (eP2 true PyData.str PyData.str) PyData.int)) p_fords)) rfl)) (s0 := s3.1) ⟨rfl, rfl, rfl, rfl, rfl, rfl, trivial⟩ (fun a10 => (tg_t (tgs_cons (tg_n (by decide)) (tgs_cons (tg_n (by decide)) tgs_nil)))) (fun a10 s9 => (b_last (b_if (Δ := fun (s11 : ((List ((Str × Str) × Int)))) => [(2, (vM true (eP2 true PyData.str PyData.str) PyData.int s11)), (0, (vD (eSq true PyData.str) p_islands)), (1, (vD (eSq true (eP2 true (eP2 true PyData.str PyData.str) PyData.int)) p_fords)), (3, (vD (eM PyData.str PyData.str) marks_7)), (4, (vD (eP2 true PyData.str PyData.str) a4.1)), (5, (vD PyData.int a4.2)), (6, (vD (eP2 true PyData.str PyData.str) a10.1)), (7, (vD PyData.int a10.2))]) gdQ (xt_andP (xtp_val (xp_hasN (keyP keyS keyS) (i := 2) (m := s9) rfl (xp_var (i := 6) (v := (vD (eP2 true PyData.str PyData.str) a10.1)) rfl))) (xt_val (xa_p (enc := vD PyData.bool) (xp_var (i := 3) (v := (vD (eM PyData.str PyData.str) marks_7)) rfl) (xa_p (enc := vD PyData.bool) (xp_var (i := 6) (v := (vD (eP2 true PyData.str PyData.str) a10.1)) rfl) (xa_nil (enc := vD PyData.bool) (fun S => call_ty (ty_joins true marks_7 a10.1 S))))))) (b_last (b_mputP (i := 2) (m := s9) (key := a10.1) (v := a4.2) gdQ (keyP keyS keyS) (by decide) rfl (xp_var (i := 5) (v := (vD PyData.int a4.2)) rfl) (xp_var (i := 6) (v := (vD (eP2 true PyData.str PyData.str) a10.1)) rfl) (b_endQ (s := (putL s9 a10.1 a4.2)) ⟨rfl, rfl, rfl, rfl, rfl, rfl, rfl, rfl, trivial⟩))) (b_endQ (s := s9) ⟨rfl, rfl, rfl, rfl, rfl, rfl, rfl, rfl, trivial⟩) (fun s12 => (b_endQ (s := s12) ⟨rfl, rfl, rfl, rfl, rfl, rfl, trivial⟩))))) (fun s14 => (b_endQ (s := (s14, marks_7)) ⟨rfl, rfl, rfl, rfl, rfl, rfl, trivial⟩)))))) (b_endQ (s := (s3.1, s3.2)) ⟨rfl, rfl, rfl, rfl, rfl, rfl, trivial⟩) (fun s15 => (b_endQ (s := (s15.1, s15.2)) ⟨rfl, rfl, rfl, rfl, trivial⟩))))) (fun s17 => (b_last (b_retTP (enc := vD (eM (eP2 true PyData.str PyData.str) PyData.int)) (xp_var (i := 2) (v := (vM true (eP2 true PyData.str PyData.str) PyData.int s17.1)) rfl) rfl)))))))
noncomputable def t_keeps_rule (p_lasts : (List ((Str × Str) × Int))) (p_rule : ((List (Str × Str)) × (Str × Str))) : TM Bool :=
  ((((pure p_rule.1) >>= fun xs_ => compM (fun (a1 : (Str × Str)) => pure true) (fun (a1 : (Str × Str)) => (someT (getL p_lasts a1))) xs_ >>= limT) >>= fun x2 => (someT (minT x2))) >>= fun x3 => (someT (getL p_lasts p_rule.2)) >>= fun x4 => (pure (decide (x3 ≤ x4))))
theorem ty_keeps_rule (p_lasts : (List ((Str × Str) × Int))) (p_rule : ((List (Str × Str)) × (Str × Str))) (S : Sto) : Rf (vD PyData.bool) (t_keeps_rule p_lasts p_rule S) (f_keeps_rule [(vD (eM (eP2 true PyData.str PyData.str) PyData.int) p_lasts), (vD (eP2 true (eSq true (eP2 true PyData.str PyData.str)) (eP2 true PyData.str PyData.str)) p_rule)] S) := by
  refine fn_ty (n := 5) (Γ0 := [(0, (vD (eM (eP2 true PyData.str PyData.str) PyData.int) p_lasts)), (1, (vD (eP2 true (eSq true (eP2 true PyData.str PyData.str)) (eP2 true PyData.str PyData.str)) p_rule))]) (te := t_keeps_rule p_lasts p_rule) (b := b_keeps_rule) ?_ (hΓ := ⟨rfl, rfl, trivial⟩)
  unfold b_keeps_rule t_keeps_rule
  exact (b_asgP (d := (eP2 true (eSq true (eP2 true PyData.str PyData.str)) (eP2 true PyData.str PyData.str)) p_rule) (G := (([] ++ [(3, (vD (eP2 true PyData.str PyData.str) p_rule.2))]) ++ [(2, (vD (eSq true (eP2 true PyData.str PyData.str)) p_rule.1))])) (xp_var (i := 1) (v := (vD (eP2 true (eSq true (eP2 true PyData.str PyData.str)) (eP2 true PyData.str PyData.str)) p_rule)) rfl) (tg_t (tgs_cons (tg_n (by decide)) (tgs_cons (tg_n (by decide)) tgs_nil))) (b_last (b_retT (encE := vD PyData.bool) (enc := vD PyData.bool) (x2_m (enc := vD PyData.bool) (xa_m (enc := vD PyData.int) (x_comp (f := PyData.int) (G := fun (a1 : (Str × Str)) => [(4, (vD (eP2 true PyData.str PyData.str) a1))]) (Γ' := [(0, (vD (eM (eP2 true PyData.str PyData.str) PyData.int) p_lasts)), (1, (vD (eP2 true (eSq true (eP2 true PyData.str PyData.str)) (eP2 true PyData.str PyData.str)) p_rule)), (2, (vD (eSq true (eP2 true PyData.str PyData.str)) p_rule.1)), (3, (vD (eP2 true PyData.str PyData.str) p_rule.2))]) (xi_seq (xp_var (i := 2) (v := (vD (eSq true (eP2 true PyData.str PyData.str)) p_rule.1)) rfl)) ⟨⟨rfl, rfl⟩, ⟨rfl, rfl⟩, ⟨rfl, rfl⟩, ⟨rfl, rfl⟩, trivial⟩ (fun a1 => (tg_n (by decide))) (fun a1 => yes_ty.xt) (fun a1 => (x2_p (enc := vD PyData.int) (xp_var (i := 0) (v := (vD (eM (eP2 true PyData.str PyData.str) PyData.int) p_lasts)) rfl) (x1_p (enc := vD PyData.int) (xp_var (i := 4) (v := (vD (eP2 true PyData.str PyData.str) a1)) rfl) (mr2 (ixAll_m (keyP keyS keyS) _ _)))))) (fun x2 => (xa_nil (enc := vD PyData.int) (mrA1 (fMin_sq _))))) (fun x3 => x1_m (enc := vD PyData.bool) (x2_p (enc := vD PyData.int) (xp_var (i := 0) (v := (vD (eM (eP2 true PyData.str PyData.str) PyData.int) p_lasts)) rfl) (x1_p (enc := vD PyData.int) (xp_var (i := 3) (v := (vD (eP2 true PyData.str PyData.str) p_rule.2)) rfl) (mr2 (ixAll_m (keyP keyS keyS) _ _)))) (fun x4 S => (pr2 rfl) S))) (fun _ => rfl))))
noncomputable def t_pairs_names (p_pairs : (List (Str × Str))) : TM (List Str) :=
  ((pure p_pairs) >>= fun xs_ => compM2 (fun (a1 : (Str × Str)) => pure true) (fun (a1 : (Str × Str)) => (pure [a1.1, a1.2]) >>= fun ys_ => compM (fun (b2 : Str) => pure true) (fun (b2 : Str) => (pure b2 : TM Str)) ys_) xs_ >>= limT)
theorem ty_pairs_names (k1 : Bool) (k2 : Bool) (p_pairs : (List (Str × Str))) (S : Sto) : Rf (vD (eSq false PyData.str)) (t_pairs_names p_pairs S) (f_pairs_names [(vD (eSq k1 (eP2 k2 PyData.str PyData.str)) p_pairs)] S) := by
  refine fn_ty (n := 3) (Γ0 := [(0, (vD (eSq k1 (eP2 k2 PyData.str PyData.str)) p_pairs))]) (te := t_pairs_names p_pairs) (b := b_pairs_names) ?_ (hΓ := ⟨rfl, trivial⟩)
  unfold b_pairs_names t_pairs_names
  exact (b_last (b_retT (encE := vD (eSq false PyData.str)) (enc := vD (eSq false PyData.str)) (x_comp2 (f := PyData.str) (G := fun (a1 : (Str × Str)) => [(1, (vD (eP2 k2 PyData.str PyData.str) a1))]) (Γ' := [(0, (vD (eSq k1 (eP2 k2 PyData.str PyData.str)) p_pairs))]) (Γ1 := fun (a1 : (Str × Str)) => [(0, (vD (eSq k1 (eP2 k2 PyData.str PyData.str)) p_pairs)), (1, (vD (eP2 k2 PyData.str PyData.str) a1))]) (G1 := fun (a1 : (Str × Str)) (b2 : Str) => [(2, (vD PyData.str b2))]) (xi_seq (xp_var (i := 0) (v := (vD (eSq k1 (eP2 k2 PyData.str PyData.str)) p_pairs)) rfl)) ⟨⟨rfl, rfl⟩, trivial⟩ (fun a1 => (tg_n (by decide))) (fun a1 => yes_ty.xt) (fun a1 => (xi_seq (k := k2) (e := PyData.str) (xs := [a1.1, a1.2]) (xp_var (i := 1) (v := (vD (eP2 k2 PyData.str PyData.str) a1)) rfl))) (fun a1 => ⟨⟨rfl, rfl⟩, ⟨rfl, rfl⟩, trivial⟩) (fun a1 b2 => (tg_n (by decide))) (fun a1 b2 => yes_ty.xt) (fun a1 b2 => ((xp_var (i := 2) (v := (vD PyData.str b2)) rfl)).xe)) (fun _ => rfl)))
noncomputable def t_islands_of (p_fords : (List ((Str × Str) × Int))) : TM (List Str) :=
  ((((pure p_fords) >>= fun xs_ => limT (xs_.map fun (a1 : ((Str × Str) × Int)) => a1.1)) >>= fun x2 => (t_pairs_names x2)) >>= fun x3 => (okT (decide ((x3).length ≤ 4000)) (ascT x3)))
theorem ty_islands_of (k1 : Bool) (k2 : Bool) (k3 : Bool) (p_fords : (List ((Str × Str) × Int))) (S : Sto) : Rf (vD (eSq true PyData.str)) (t_islands_of p_fords S) (f_islands_of [(vD (eSq k1 (eP2 k2 (eP2 k3 PyData.str PyData.str) PyData.int)) p_fords)] S) := by
  refine fn_ty (n := 3) (Γ0 := [(0, (vD (eSq k1 (eP2 k2 (eP2 k3 PyData.str PyData.str) PyData.int)) p_fords))]) (te := t_islands_of p_fords) (b := b_islands_of) ?_ (hΓ := ⟨rfl, trivial⟩)
  unfold b_islands_of t_islands_of
  exact (b_last (b_retT (encE := vD (eSq true PyData.str)) (enc := vD (eSq true PyData.str)) (xa_m (enc := vD (eSq true PyData.str)) (xa_m (enc := vD (eSq false PyData.str)) (x_compP0 (f := (eP2 k3 PyData.str PyData.str)) (G := fun (a1 : ((Str × Str) × Int)) => (([] ++ [(2, (vD PyData.int a1.2))]) ++ [(1, (vD (eP2 k3 PyData.str PyData.str) a1.1))])) (Γ' := [(0, (vD (eSq k1 (eP2 k2 (eP2 k3 PyData.str PyData.str) PyData.int)) p_fords))]) (xi_seq (xp_var (i := 0) (v := (vD (eSq k1 (eP2 k2 (eP2 k3 PyData.str PyData.str) PyData.int)) p_fords)) rfl)) ⟨⟨rfl, rfl⟩, trivial⟩ (fun a1 => (tg_t (tgs_cons (tg_n (by decide)) (tgs_cons (tg_n (by decide)) tgs_nil)))) (fun a1 => (xp_var (i := 1) (v := (vD (eP2 k3 PyData.str PyData.str) a1.1)) rfl))) (fun x2 => (xa_nil (enc := vD (eSq false PyData.str)) (fun S => call_ty (ty_pairs_names false k3 x2 S))))) (fun x3 => (xa_nil (enc := vD (eSq true PyData.str)) (fun S => call_ty (ascS_ty (k := false) x3 S))))) (fun _ => rfl)))
noncomputable def t_lasts_by (k1 : Bool) (k2 : Bool) (k3 : Bool) (p_fords : (List ((Str × Str) × Int))) : TM (List ((Str × Str) × Int)) :=
  ((t_islands_of p_fords) >>= fun x1 => ((believe (∀ S, (f_frozen 8) [(vD (eSq k1 (eP2 k2 (eP2 k3 PyData.str PyData.str) PyData.int)) p_fords)] S = .ok (vD (eSq true (eP2 true (eP2 true PyData.str PyData.str) PyData.int)) p_fords) S) p_fords) >>= fun x2 => (t_last_waters x1 x2)))
theorem ty_lasts_by (k1 : Bool) (k2 : Bool) (k3 : Bool) (p_fords : (List ((Str × Str) × Int))) (S : Sto) : Rf (vD (eM (eP2 true PyData.str PyData.str) PyData.int)) (t_lasts_by k1 k2 k3 p_fords S) (f_lasts_by [(vD (eSq k1 (eP2 k2 (eP2 k3 PyData.str PyData.str) PyData.int)) p_fords)] S) := by
  refine fn_ty (n := 1) (Γ0 := [(0, (vD (eSq k1 (eP2 k2 (eP2 k3 PyData.str PyData.str) PyData.int)) p_fords))]) (te := t_lasts_by k1 k2 k3 p_fords) (b := b_lasts_by) ?_ (hΓ := ⟨rfl, trivial⟩)
  unfold b_lasts_by t_lasts_by
  exact (b_last (b_retT (encE := vD (eM (eP2 true PyData.str PyData.str) PyData.int)) (enc := vD (eM (eP2 true PyData.str PyData.str) PyData.int)) (xa_m (enc := vD (eM (eP2 true PyData.str PyData.str) PyData.int)) (xa_p (enc := vD (eSq true PyData.str)) (xp_var (i := 0) (v := (vD (eSq k1 (eP2 k2 (eP2 k3 PyData.str PyData.str) PyData.int)) p_fords)) rfl) (xa_nil (enc := vD (eSq true PyData.str)) (fun S => call_ty (ty_islands_of k1 k2 k3 p_fords S)))) (fun x1 => (xa_m (enc := vD (eM (eP2 true PyData.str PyData.str) PyData.int)) (xa_p (enc := vD (eSq true (eP2 true (eP2 true PyData.str PyData.str) PyData.int))) (xp_var (i := 0) (v := (vD (eSq k1 (eP2 k2 (eP2 k3 PyData.str PyData.str) PyData.int)) p_fords)) rfl) (xa_nil (enc := vD (eSq true (eP2 true (eP2 true PyData.str PyData.str) PyData.int))) (fun S => call_ty (believe_ty (enc := vD (eSq true (eP2 true (eP2 true PyData.str PyData.str) PyData.int))) (x := p_fords) (r := (f_frozen 8) [(vD (eSq k1 (eP2 k2 (eP2 k3 PyData.str PyData.str) PyData.int)) p_fords)]))))) (fun x2 => (xa_nil (enc := vD (eM (eP2 true PyData.str PyData.str) PyData.int)) (fun S => call_ty (ty_last_waters  x1 x2 S))))))) (fun _ => rfl)))
noncomputable def t_asked_rule (k1 : Bool) (k2 : Bool) (k3 : Bool) (k4 : Bool) (k5 : Bool) (p_fords : (List ((Str × Str) × Int))) (p_wants : (List (Str × Str))) (p_gives : (Str × Str)) : TM ((List (Str × Str)) × (Str × Str)) :=
  (((t_islands_of p_fords) >>= fun x2 => (((okT (decide (((p_wants ++ [p_gives])).length ≤ big)) (p_wants ++ [p_gives])) >>= fun x1 => (t_pairs_names x1)) >>= fun x3 => (t_check_islands x2 x3))) >>= fun _ => ((believe (∀ S, (f_frozen 8) [(vD (eSq k4 (eP2 k5 PyData.str PyData.str)) p_wants)] S = .ok (vD (eSq true (eP2 true PyData.str PyData.str)) p_wants) S) p_wants) >>= fun x4 => ((believe (∀ S, (f_frozen 8) [(vD (eP2 k5 PyData.str PyData.str) p_gives)] S = .ok (vD (eP2 true PyData.str PyData.str) p_gives) S) p_gives) >>= fun x5 => (pure (x4, x5)))))
theorem ty_asked_rule (k1 : Bool) (k2 : Bool) (k3 : Bool) (k4 : Bool) (k5 : Bool) (p_fords : (List ((Str × Str) × Int))) (p_wants : (List (Str × Str))) (p_gives : (Str × Str)) (S : Sto) : Rf (vD (eP2 true (eSq true (eP2 true PyData.str PyData.str)) (eP2 true PyData.str PyData.str))) (t_asked_rule k1 k2 k3 k4 k5 p_fords p_wants p_gives S) (f_asked_rule [(vD (eSq k1 (eP2 k2 (eP2 k3 PyData.str PyData.str) PyData.int)) p_fords), (vD (eSq k4 (eP2 k5 PyData.str PyData.str)) p_wants), (vD (eP2 k5 PyData.str PyData.str) p_gives)] S) := by
  refine fn_ty (n := 3) (Γ0 := [(0, (vD (eSq k1 (eP2 k2 (eP2 k3 PyData.str PyData.str) PyData.int)) p_fords)), (1, (vD (eSq k4 (eP2 k5 PyData.str PyData.str)) p_wants)), (2, (vD (eP2 k5 PyData.str PyData.str) p_gives))]) (te := t_asked_rule k1 k2 k3 k4 k5 p_fords p_wants p_gives) (b := b_asked_rule) ?_ (hΓ := ⟨rfl, rfl, rfl, trivial⟩)
  unfold b_asked_rule t_asked_rule
  exact (b_expr (enc := vD eU) gdT (xa_m (enc := vD eU) (xa_p (enc := vD (eSq true PyData.str)) (xp_var (i := 0) (v := (vD (eSq k1 (eP2 k2 (eP2 k3 PyData.str PyData.str) PyData.int)) p_fords)) rfl) (xa_nil (enc := vD (eSq true PyData.str)) (fun S => call_ty (ty_islands_of k1 k2 k3 p_fords S)))) (fun x2 => (xa_m (enc := vD eU) (xa_m (enc := vD (eSq false PyData.str)) (xa_star (enc := vD (eSq true (eP2 k5 PyData.str PyData.str))) (xp_var (i := 1) (v := (vD (eSq k4 (eP2 k5 PyData.str PyData.str)) p_wants)) rfl) (xa_p (enc := vD (eSq true (eP2 k5 PyData.str PyData.str))) (xp_var (i := 2) (v := (vD (eP2 k5 PyData.str PyData.str) p_gives)) rfl) (xa_nil (enc := vD (eSq true (eP2 k5 PyData.str PyData.str))) (star_seT _ _)))) (fun x1 => (xa_nil (enc := vD (eSq false PyData.str)) (fun S => call_ty (ty_pairs_names true k5 x1 S))))) (fun x3 => (xa_nil (enc := vD eU) (fun S => call_ty (ty_check_islands true false x2 x3 S))))))) (b_last (b_retT (encE := vD (eP2 true (eSq true (eP2 true PyData.str PyData.str)) (eP2 true PyData.str PyData.str))) (enc := vD (eP2 true (eSq true (eP2 true PyData.str PyData.str)) (eP2 true PyData.str PyData.str))) (xa_m (enc := vD (eP2 true (eSq true (eP2 true PyData.str PyData.str)) (eP2 true PyData.str PyData.str))) (xa_p (enc := vD (eSq true (eP2 true PyData.str PyData.str))) (xp_var (i := 1) (v := (vD (eSq k4 (eP2 k5 PyData.str PyData.str)) p_wants)) rfl) (xa_nil (enc := vD (eSq true (eP2 true PyData.str PyData.str))) (fun S => call_ty (believe_ty (enc := vD (eSq true (eP2 true PyData.str PyData.str))) (x := p_wants) (r := (f_frozen 8) [(vD (eSq k4 (eP2 k5 PyData.str PyData.str)) p_wants)]))))) (fun x4 => (xa_m (enc := vD (eP2 true (eSq true (eP2 true PyData.str PyData.str)) (eP2 true PyData.str PyData.str))) (xa_p (enc := vD (eP2 true PyData.str PyData.str)) (xp_var (i := 2) (v := (vD (eP2 k5 PyData.str PyData.str) p_gives)) rfl) (xa_nil (enc := vD (eP2 true PyData.str PyData.str)) (fun S => call_ty (believe_ty (enc := vD (eP2 true PyData.str PyData.str)) (x := p_gives) (r := (f_frozen 8) [(vD (eP2 k5 PyData.str PyData.str) p_gives)]))))) (fun x5 => (xa_nil (enc := vD (eP2 true (eSq true (eP2 true PyData.str PyData.str)) (eP2 true PyData.str PyData.str))) (fun _ => rfl)))))) (fun _ => rfl))))
noncomputable def t_fords_keep (k1 : Bool) (k2 : Bool) (k3 : Bool) (k4 : Bool) (k5 : Bool) (p_fords : (List ((Str × Str) × Int))) (p_wants : (List (Str × Str))) (p_gives : (Str × Str)) : TM Bool :=
  ((t_asked_rule k1 k2 k3 k4 k5 p_fords p_wants p_gives) >>= fun (rule_1 : ((List (Str × Str)) × (Str × Str))) => ((t_lasts_by k1 k2 k3 p_fords) >>= fun x2 => (t_keeps_rule x2 rule_1)))
theorem ty_fords_keep (k1 : Bool) (k2 : Bool) (k3 : Bool) (k4 : Bool) (k5 : Bool) (p_fords : (List ((Str × Str) × Int))) (p_wants : (List (Str × Str))) (p_gives : (Str × Str)) (S : Sto) : Rf (vD PyData.bool) (t_fords_keep k1 k2 k3 k4 k5 p_fords p_wants p_gives S) (f_fords_keep [(vD (eSq k1 (eP2 k2 (eP2 k3 PyData.str PyData.str) PyData.int)) p_fords), (vD (eSq k4 (eP2 k5 PyData.str PyData.str)) p_wants), (vD (eP2 k5 PyData.str PyData.str) p_gives)] S) := by
  refine fn_ty (n := 4) (Γ0 := [(0, (vD (eSq k1 (eP2 k2 (eP2 k3 PyData.str PyData.str) PyData.int)) p_fords)), (1, (vD (eSq k4 (eP2 k5 PyData.str PyData.str)) p_wants)), (2, (vD (eP2 k5 PyData.str PyData.str) p_gives))]) (te := t_fords_keep k1 k2 k3 k4 k5 p_fords p_wants p_gives) (b := b_fords_keep) ?_ (hΓ := ⟨rfl, rfl, rfl, trivial⟩)
  unfold b_fords_keep t_fords_keep
  exact (b_set (i := 3) (enc := (eP2 true (eSq true (eP2 true PyData.str PyData.str)) (eP2 true PyData.str PyData.str))) gdT (by decide) (xa_p (enc := vD (eP2 true (eSq true (eP2 true PyData.str PyData.str)) (eP2 true PyData.str PyData.str))) (xp_var (i := 0) (v := (vD (eSq k1 (eP2 k2 (eP2 k3 PyData.str PyData.str) PyData.int)) p_fords)) rfl) (xa_p (enc := vD (eP2 true (eSq true (eP2 true PyData.str PyData.str)) (eP2 true PyData.str PyData.str))) (xp_var (i := 1) (v := (vD (eSq k4 (eP2 k5 PyData.str PyData.str)) p_wants)) rfl) (xa_p (enc := vD (eP2 true (eSq true (eP2 true PyData.str PyData.str)) (eP2 true PyData.str PyData.str))) (xp_var (i := 2) (v := (vD (eP2 k5 PyData.str PyData.str) p_gives)) rfl) (xa_nil (enc := vD (eP2 true (eSq true (eP2 true PyData.str PyData.str)) (eP2 true PyData.str PyData.str))) (fun S => call_ty (ty_asked_rule k1 k2 k3 k4 k5 p_fords p_wants p_gives S)))))) (fun rule_1 => (b_last (b_retT (encE := vD PyData.bool) (enc := vD PyData.bool) (xa_m (enc := vD PyData.bool) (xa_p (enc := vD (eM (eP2 true PyData.str PyData.str) PyData.int)) (xp_var (i := 0) (v := (vD (eSq k1 (eP2 k2 (eP2 k3 PyData.str PyData.str) PyData.int)) p_fords)) rfl) (xa_nil (enc := vD (eM (eP2 true PyData.str PyData.str) PyData.int)) (fun S => call_ty (ty_lasts_by k1 k2 k3 p_fords S)))) (fun x2 => (xa_p (enc := vD PyData.bool) (xp_var (i := 3) (v := (vD (eP2 true (eSq true (eP2 true PyData.str PyData.str)) (eP2 true PyData.str PyData.str)) rule_1)) rfl) (xa_nil (enc := vD PyData.bool) (fun S => call_ty (ty_keeps_rule  x2 rule_1 S)))))) (fun _ => rfl)))))
noncomputable def t_broken_at (k1 : Bool) (k2 : Bool) (k3 : Bool) (k4 : Bool) (k5 : Bool) (p_fords : (List ((Str × Str) × Int))) (p_wants : (List (Str × Str))) (p_gives : (Str × Str)) : TM (Option Int) :=
  ((t_asked_rule k1 k2 k3 k4 k5 p_fords p_wants p_gives) >>= fun (rule_1 : ((List (Str × Str)) × (Str × Str))) => ((t_lasts_by k1 k2 k3 p_fords) >>= fun (lasts_2 : (List ((Str × Str) × Int))) => ((t_keeps_rule lasts_2 rule_1) >>= fun c4 => if c4 then (pure none) else ((someT (getL lasts_2 rule_1.2)) >>= fun x3 => pure (some x3)))))
theorem ty_broken_at (k1 : Bool) (k2 : Bool) (k3 : Bool) (k4 : Bool) (k5 : Bool) (p_fords : (List ((Str × Str) × Int))) (p_wants : (List (Str × Str))) (p_gives : (Str × Str)) (S : Sto) : Rf (vD (eO PyData.int)) (t_broken_at k1 k2 k3 k4 k5 p_fords p_wants p_gives S) (f_broken_at [(vD (eSq k1 (eP2 k2 (eP2 k3 PyData.str PyData.str) PyData.int)) p_fords), (vD (eSq k4 (eP2 k5 PyData.str PyData.str)) p_wants), (vD (eP2 k5 PyData.str PyData.str) p_gives)] S) := by
  refine fn_ty (n := 5) (Γ0 := [(0, (vD (eSq k1 (eP2 k2 (eP2 k3 PyData.str PyData.str) PyData.int)) p_fords)), (1, (vD (eSq k4 (eP2 k5 PyData.str PyData.str)) p_wants)), (2, (vD (eP2 k5 PyData.str PyData.str) p_gives))]) (te := t_broken_at k1 k2 k3 k4 k5 p_fords p_wants p_gives) (b := b_broken_at) ?_ (hΓ := ⟨rfl, rfl, rfl, trivial⟩)
  unfold b_broken_at t_broken_at
  exact (b_set (i := 3) (enc := (eP2 true (eSq true (eP2 true PyData.str PyData.str)) (eP2 true PyData.str PyData.str))) gdT (by decide) (xa_p (enc := vD (eP2 true (eSq true (eP2 true PyData.str PyData.str)) (eP2 true PyData.str PyData.str))) (xp_var (i := 0) (v := (vD (eSq k1 (eP2 k2 (eP2 k3 PyData.str PyData.str) PyData.int)) p_fords)) rfl) (xa_p (enc := vD (eP2 true (eSq true (eP2 true PyData.str PyData.str)) (eP2 true PyData.str PyData.str))) (xp_var (i := 1) (v := (vD (eSq k4 (eP2 k5 PyData.str PyData.str)) p_wants)) rfl) (xa_p (enc := vD (eP2 true (eSq true (eP2 true PyData.str PyData.str)) (eP2 true PyData.str PyData.str))) (xp_var (i := 2) (v := (vD (eP2 k5 PyData.str PyData.str) p_gives)) rfl) (xa_nil (enc := vD (eP2 true (eSq true (eP2 true PyData.str PyData.str)) (eP2 true PyData.str PyData.str))) (fun S => call_ty (ty_asked_rule k1 k2 k3 k4 k5 p_fords p_wants p_gives S)))))) (fun rule_1 => (b_set (i := 4) (enc := (eM (eP2 true PyData.str PyData.str) PyData.int)) gdT (by decide) (xa_p (enc := vD (eM (eP2 true PyData.str PyData.str) PyData.int)) (xp_var (i := 0) (v := (vD (eSq k1 (eP2 k2 (eP2 k3 PyData.str PyData.str) PyData.int)) p_fords)) rfl) (xa_nil (enc := vD (eM (eP2 true PyData.str PyData.str) PyData.int)) (fun S => call_ty (ty_lasts_by k1 k2 k3 p_fords S)))) (fun lasts_2 => (b_ifR gdT (xt_val (xa_p (enc := vD PyData.bool) (xp_var (i := 4) (v := (vD (eM (eP2 true PyData.str PyData.str) PyData.int) lasts_2)) rfl) (xa_p (enc := vD PyData.bool) (xp_var (i := 3) (v := (vD (eP2 true (eSq true (eP2 true PyData.str PyData.str)) (eP2 true PyData.str PyData.str)) rule_1)) rfl) (xa_nil (enc := vD PyData.bool) (fun S => call_ty (ty_keeps_rule  lasts_2 rule_1 S)))))) (b_retTP (v := vD (eO PyData.int) none) (enc := vD (eO PyData.int)) xp_k rfl) (b_nilseq (b_last (b_retT (encE := vD (eO PyData.int)) (enc := vD (eO PyData.int)) (XE.map (g := fun x3 => (some x3)) (enc' := vD (eO PyData.int)) (x2_p (enc := vD PyData.int) (xp_var (i := 4) (v := (vD (eM (eP2 true PyData.str PyData.str) PyData.int) lasts_2)) rfl) (x1_p (enc := vD PyData.int) (xp_2 (u := vD (eP2 true PyData.str PyData.str) rule_1.2) (xp_var (i := 3) (v := (vD (eP2 true (eSq true (eP2 true PyData.str PyData.str)) (eP2 true PyData.str PyData.str)) rule_1)) rfl) xp_k (pr2 (ixAll_p1 _))) (mr2 (ixAll_m (keyP keyS keyS) _ _)))) (fun _ => rfl)) (fun _ => rfl)))))))))
noncomputable def t__law_of {α : Type} [DecidableEq α] (p_some_so : (List α)) : TM α :=
  ((drawT f__law_take (((p_some_so).length : Nat) : Int)) >>= fun x1 => (someT (atI p_some_so x1)))
theorem ty__law_of (k1 : Bool) {α : Type} [DecidableEq α] (e : α → PyData) (p_some_so : (List α)) (S : Sto) : Rf (vD e) (t__law_of p_some_so S) (f__law_of [.c 0, (vD (eSq k1 e) p_some_so)] S) := by
  refine fn_ty (n := 2) (Γ0 := [(0, (.c 0)), (1, (vD (eSq k1 e) p_some_so))]) (te := t__law_of p_some_so) (b := b__law_of) ?_ (hΓ := ⟨rfl, rfl, trivial⟩)
  unfold b__law_of t__law_of
  exact (b_last (b_retT (encE := vD e) (enc := vD e) (x2_p (enc := vD e) (xp_var (i := 1) (v := (vD (eSq k1 e) p_some_so)) rfl) (x1_m (enc := vD e) (xa_p (enc := vD PyData.int) (xp_var (i := 0) (v := (.c 0)) rfl) (xa_p (enc := vD PyData.int) (xpa_p (xp_var (i := 1) (v := (vD (eSq k1 e) p_some_so)) rfl) (xpa_nil (v := vD PyData.int (((p_some_so).length : Nat) : Int)) (prA1 (fLen_sq _)))) (xa_nil (enc := vD PyData.int) (fun S => call_ty draw_ty)))) (fun x1 S => (mr2 (ixAll_sq _ _)) S))) (fun _ => rfl)))
noncomputable def t__law_pick {α : Type} [DecidableEq α] (p_pool : (List α)) (p_size_so : Int) : TM (List α) :=
  ((rangeT (if (((p_pool).length : Nat) : Int) < p_size_so then (((p_pool).length : Nat) : Int) else p_size_so)) >>= fun xs_ => forT xs_ ((p_pool, ([] : (List α))) : ((List α) × (List α))) (fun (a3 : Int) (s2 : ((List α) × (List α))) => ((drawT f__law_take (((s2.1).length : Nat) : Int)) >>= fun q_ => okT (decide ((s2.2).length ≤ big ∧ (s2.1).length ≤ big)) () >>= fun _ => someT (popI s2.1 q_) >>= fun (p4 : α × List α) => (pure (p4.2, (s2.2 ++ [p4.1]))))) >>= fun (s5 : ((List α) × (List α))) => (pure s5.2))
theorem ty__law_pick (k1 : Bool) {α : Type} [DecidableEq α] (e : α → PyData) (p_pool : (List α)) (p_size_so : Int) (S : Sto) : Rf (vD (eSq false e)) (t__law_pick p_pool p_size_so S) (f__law_pick [.c 0, (vD (eSq k1 e) p_pool), (vD PyData.int p_size_so)] S) := by
  refine fn_ty (n := 6) (Γ0 := [(0, (.c 0)), (1, (vD (eSq k1 e) p_pool)), (2, (vD PyData.int p_size_so))]) (te := t__law_pick p_pool p_size_so) (b := b__law_pick) ?_ (hΓ := ⟨rfl, rfl, rfl, trivial⟩)
  unfold b__law_pick t__law_pick
  exact (b_new2 (i := 3) (j := 4) (e' := e) (by decide) (by decide) (xp_var (i := 1) (v := (vD (eSq k1 e) p_pool)) rfl) (b_for (Δ := fun (s1 : ((List α) × (List α))) => [(3, (vO e s1.1)), (4, (vO e s1.2)), (0, (.c 0)), (1, (vD (eSq k1 e) p_pool)), (2, (vD PyData.int p_size_so))]) (G := fun (a3 : Int) => [(5, (vD PyData.int a3))]) gdT (xi_range1 (xpa_p (xp_var (i := 2) (v := (vD PyData.int p_size_so)) rfl) (xpa_p (xpa_p (xp_var (i := 3) (v := (vO e p_pool)) rfl) (xpa_nil (v := vD PyData.int (((p_pool).length : Nat) : Int)) (prA1o (fLen_o _)))) (xpa_nil (v := vD PyData.int (if (((p_pool).length : Nat) : Int) < p_size_so then (((p_pool).length : Nat) : Int) else p_size_so)) (prA2 rfl))))) (s0 := (p_pool, ([] : (List α)))) ⟨rfl, rfl, rfl, rfl, rfl, trivial⟩ (fun a3 => (tg_n (by decide))) (fun a3 s2 => (b_last (b_apppop (i := 4) (j := 3) (xs := s2.2) (ys := s2.1) gdQ (by decide) (by decide) (by decide) rfl rfl (xa_p (enc := vD PyData.int) (xp_var (i := 0) (v := (.c 0)) rfl) (xa_p (enc := vD PyData.int) (xpa_p (xp_var (i := 3) (v := (vO e s2.1)) rfl) (xpa_nil (v := vD PyData.int (((s2.1).length : Nat) : Int)) (prA1o (fLen_o _)))) (xa_nil (enc := vD PyData.int) (fun S => call_ty draw_ty)))) (fun p4 => (b_endQ (s := (p4.2, (s2.2 ++ [p4.1]))) ⟨rfl, rfl, rfl, rfl, rfl, trivial⟩))))) (fun s5 => (b_last (b_retTP (enc := vD (eSq false e)) (xp_var (i := 4) (v := (vO e s5.2)) rfl) rfl)))))
noncomputable def t__law_isles (p_size_so : Int) : TM (List Str) :=
  (((t__law_pick ([("a" : Str), ("b" : Str), ("c" : Str), ("d" : Str), ("e" : Str), ("ab" : Str), ("ba" : Str), ("abcdefgh" : Str), ("abcdefgi" : Str), ("x" : Str), ("zz" : Str), ("q" : Str)] : List Str) p_size_so) >>= fun x1 => (okT (decide ((x1).length < 64)) (sortT x1))) >>= fun x2 => (pure x2))
theorem ty__law_isles (p_size_so : Int) (S : Sto) : Rf (vD (eSq true PyData.str)) (t__law_isles p_size_so S) (f__law_isles [.c 0, (vD PyData.int p_size_so)] S) := by
  refine fn_ty (n := 2) (Γ0 := [(0, (.c 0)), (1, (vD PyData.int p_size_so))]) (te := t__law_isles p_size_so) (b := b__law_isles) ?_ (hΓ := ⟨rfl, rfl, trivial⟩)
  unfold b__law_isles t__law_isles
  exact (b_last (b_retT (encE := vD (eSq true PyData.str)) (enc := vD (eSq true PyData.str)) (xa_m (enc := vD (eSq true PyData.str)) (xa_m (enc := vD (eSq false PyData.str)) (xa_p (enc := vD (eSq false PyData.str)) (xp_var (i := 0) (v := (.c 0)) rfl) (xa_p (enc := vD (eSq false PyData.str)) (xpa_p xp_k (xpa_p xp_k (xpa_p xp_k (xpa_p xp_k (xpa_p xp_k (xpa_p xp_k (xpa_p xp_k (xpa_p xp_k (xpa_p xp_k (xpa_p xp_k (xpa_p xp_k (xpa_p xp_k (xpa_nil (v := vD (eSq false PyData.str) ([("a" : Str), ("b" : Str), ("c" : Str), ("d" : Str), ("e" : Str), ("ab" : Str), ("ba" : Str), ("abcdefgh" : Str), ("abcdefgi" : Str), ("x" : Str), ("zz" : Str), ("q" : Str)] : List Str)) (fun _ => rfl)))))))))))))) (xa_p (enc := vD (eSq false PyData.str)) (xp_var (i := 1) (v := (vD PyData.int p_size_so)) rfl) (xa_nil (enc := vD (eSq false PyData.str)) (fun S => call_ty (ty__law_pick false PyData.str ([("a" : Str), ("b" : Str), ("c" : Str), ("d" : Str), ("e" : Str), ("ab" : Str), ("ba" : Str), ("abcdefgh" : Str), ("abcdefgi" : Str), ("x" : Str), ("zz" : Str), ("q" : Str)] : List Str) p_size_so S)))))) (fun x1 => (xa_nil (enc := vD (eSq false PyData.str)) (okA1 (fSortedB_str _))))) (fun x2 => (xa_nil (enc := vD (eSq true PyData.str)) (prA1 (fTuple_sq _))))) (fun _ => rfl)))
noncomputable def t__law_pairs (p_tags : (List Str)) : TM (List (Str × Str)) :=
  ((pure (enumI p_tags)) >>= fun xs_ => forT xs_ (([] : List (Str × Str)) : ((List (Str × Str)))) (fun (a3 : (Int × Str)) (s2 : ((List (Str × Str)))) => ((((pure (cutG p_tags (some (a3.1 + (1 : Int))) none)) >>= fun xs_ => limT (xs_.map fun (a4 : Str) => (a3.2, a4))) >>= fun x5 => (okT (decide ((s2).length + (x5).length ≤ big)) (s2 ++ x5))) >>= fun (found_6 : (List (Str × Str))) => (pure found_6))) >>= fun (s7 : ((List (Str × Str)))) => (pure s7))
theorem ty__law_pairs (k1 : Bool) (p_tags : (List Str)) (S : Sto) : Rf (vD (eSq false (eP2 true PyData.str PyData.str))) (t__law_pairs p_tags S) (f__law_pairs [(vD (eSq k1 PyData.str) p_tags)] S) := by
  refine fn_ty (n := 5) (Γ0 := [(0, (vD (eSq k1 PyData.str) p_tags))]) (te := t__law_pairs p_tags) (b := b__law_pairs) ?_ (hΓ := ⟨rfl, trivial⟩)
  unfold b__law_pairs t__law_pairs
  exact (b_setP (i := 1) (d := (eSq false (eP2 true PyData.str PyData.str)) ([] : List (Str × Str))) (by decide) (xpa_nil (v := vD (eSq false (eP2 true PyData.str PyData.str)) ([] : List (Str × Str))) (fun _ => rfl)) (b_for (Δ := fun (s1 : ((List (Str × Str)))) => [(1, (vD (eSq false (eP2 true PyData.str PyData.str)) s1)), (0, (vD (eSq k1 PyData.str) p_tags))]) (G := fun (a3 : (Int × Str)) => (([] ++ [(3, (vD PyData.str a3.2))]) ++ [(2, (vD PyData.int a3.1))])) gdT (xi_enum (xp_var (i := 0) (v := (vD (eSq k1 PyData.str) p_tags)) rfl)) (s0 := ([] : List (Str × Str))) ⟨rfl, rfl, trivial⟩ (fun a3 => (tg_t (tgs_cons (tg_n (by decide)) (tgs_cons (tg_n (by decide)) tgs_nil)))) (fun a3 s2 => (b_last (b_set (i := 1) (enc := (eSq false (eP2 true PyData.str PyData.str))) gdQ (by decide) (x2_p (enc := vD (eSq false (eP2 true PyData.str PyData.str))) (xp_var (i := 1) (v := (vD (eSq false (eP2 true PyData.str PyData.str)) s2)) rfl) (x1_m (enc := vD (eSq false (eP2 true PyData.str PyData.str))) (x_compP0 (f := (eP2 true PyData.str PyData.str)) (G := fun (a4 : Str) => [(4, (vD PyData.str a4))]) (Γ' := [(0, (vD (eSq k1 PyData.str) p_tags)), (1, (vD (eSq false (eP2 true PyData.str PyData.str)) s2)), (2, (vD PyData.int a3.1)), (3, (vD PyData.str a3.2))]) (xi_seq (xp_sl (xp_var (i := 0) (v := (vD (eSq k1 PyData.str) p_tags)) rfl) (xo_some (xp_2 (u := vD PyData.int (a3.1 + (1 : Int))) (xp_var (i := 2) (v := (vD PyData.int a3.1)) rfl) xp_k (pr2 rfl))) xo_none)) ⟨⟨rfl, rfl⟩, ⟨rfl, rfl⟩, ⟨rfl, rfl⟩, ⟨rfl, rfl⟩, trivial⟩ (fun a4 => (tg_n (by decide))) (fun a4 => (xpa_p (xp_var (i := 3) (v := (vD PyData.str a3.2)) rfl) (xpa_p (xp_var (i := 4) (v := (vD PyData.str a4)) rfl) (xpa_nil (v := vD (eP2 true PyData.str PyData.str) (a3.2, a4)) (fun _ => rfl)))))) (fun x5 S => (ok2 (addD_sq _ _)) S))) (fun found_6 => (b_endQ (s := found_6) ⟨rfl, rfl, trivial⟩))))) (fun s7 => (b_last (b_retTP (v := vD (eSq false (eP2 true PyData.str PyData.str)) s7) (enc := vD (eSq false (eP2 true PyData.str PyData.str))) (xp_var (i := 1) (v := (vD (eSq false (eP2 true PyData.str PyData.str)) s7)) rfl) rfl)))))
noncomputable def t__law_fords (p_tags : (List Str)) (p_most_so : Int) : TM (List ((Str × Str) × Int)) :=
  ((t__law_of ([(1 : Int), (1 : Int), (1 : Int), (7 : Int), (10 ^ 39 : Int)] : List Int)) >>= fun (unit_1 : Int) => (((t__law_pairs p_tags) >>= fun xs_ => compM (fun (a2 : (Str × Str)) => pure true) (fun (a2 : (Str × Str)) => ((((drawT f__law_take (p_most_so + (1 : Int))) >>= fun x3 => (okT (smallI unit_1 && smallI x3) (unit_1 * x3))) >>= fun x6 => (((drawT f__law_take (4 : Int)) >>= fun x4 => (okT (decide (0 < (3 : Int)) && smallI (3 : Int)) (x4 / (3 : Int)))) >>= fun x5 => (okT (smallI (if (decide ((1 : Int) < unit_1)) then (1 : Int) else 0) && smallI x5) ((if (decide ((1 : Int) < unit_1)) then (1 : Int) else 0) * x5))) >>= fun x7 => (pure (x6 + x7))) >>= fun x8 => (pure (a2, x8)))) xs_ >>= limT) >>= fun x9 => (pure x9)))
theorem ty__law_fords (p_tags : (List Str)) (p_most_so : Int) (S : Sto) : Rf (vD (eSq true (eP2 true (eP2 true PyData.str PyData.str) PyData.int))) (t__law_fords p_tags p_most_so S) (f__law_fords [.c 0, (vD (eSq true PyData.str) p_tags), (vD PyData.int p_most_so)] S) := by
  refine fn_ty (n := 5) (Γ0 := [(0, (.c 0)), (1, (vD (eSq true PyData.str) p_tags)), (2, (vD PyData.int p_most_so))]) (te := t__law_fords p_tags p_most_so) (b := b__law_fords) ?_ (hΓ := ⟨rfl, rfl, rfl, trivial⟩)
  unfold b__law_fords t__law_fords
  exact (b_set (i := 3) (enc := PyData.int) gdT (by decide) (xa_p (enc := vD PyData.int) (xp_var (i := 0) (v := (.c 0)) rfl) (xa_p (enc := vD PyData.int) (xpa_p xp_k (xpa_p xp_k (xpa_p xp_k (xpa_p xp_k (xpa_p (xp_2 (u := vD PyData.int (10 ^ 39 : Int)) xp_k xp_k (fun _ => rfl)) (xpa_nil (v := vD (eSq false PyData.int) ([(1 : Int), (1 : Int), (1 : Int), (7 : Int), (10 ^ 39 : Int)] : List Int)) (fun _ => rfl))))))) (xa_nil (enc := vD PyData.int) (fun S => call_ty (ty__law_of false PyData.int ([(1 : Int), (1 : Int), (1 : Int), (7 : Int), (10 ^ 39 : Int)] : List Int) S))))) (fun unit_1 => (b_last (b_retT (encE := vD (eSq true (eP2 true (eP2 true PyData.str PyData.str) PyData.int))) (enc := vD (eSq true (eP2 true (eP2 true PyData.str PyData.str) PyData.int))) (xa_m (enc := vD (eSq true (eP2 true (eP2 true PyData.str PyData.str) PyData.int))) (x_comp (f := (eP2 true (eP2 true PyData.str PyData.str) PyData.int)) (G := fun (a2 : (Str × Str)) => [(4, (vD (eP2 true PyData.str PyData.str) a2))]) (Γ' := [(0, (.c 0)), (1, (vD (eSq true PyData.str) p_tags)), (2, (vD PyData.int p_most_so)), (3, (vD PyData.int unit_1))]) (xi_seqM (xa_p (enc := vD (eSq false (eP2 true PyData.str PyData.str))) (xp_var (i := 1) (v := (vD (eSq true PyData.str) p_tags)) rfl) (xa_nil (enc := vD (eSq false (eP2 true PyData.str PyData.str))) (fun S => call_ty (ty__law_pairs true p_tags S))))) ⟨⟨rfl, rfl⟩, ⟨rfl, rfl⟩, ⟨rfl, rfl⟩, ⟨rfl, rfl⟩, trivial⟩ (fun a2 => (tg_n (by decide))) (fun a2 => yes_ty.xt) (fun a2 => (xa_p (enc := vD (eP2 true (eP2 true PyData.str PyData.str) PyData.int)) (xp_var (i := 4) (v := (vD (eP2 true PyData.str PyData.str) a2)) rfl) (xa_m (enc := vD (eP2 true (eP2 true PyData.str PyData.str) PyData.int)) (x2_m (enc := vD PyData.int) (x2_p (enc := vD PyData.int) (xp_var (i := 3) (v := (vD PyData.int unit_1)) rfl) (x1_m (enc := vD PyData.int) (xa_p (enc := vD PyData.int) (xp_var (i := 0) (v := (.c 0)) rfl) (xa_p (enc := vD PyData.int) (xp_2 (u := vD PyData.int (p_most_so + (1 : Int))) (xp_var (i := 2) (v := (vD PyData.int p_most_so)) rfl) xp_k (pr2 rfl)) (xa_nil (enc := vD PyData.int) (fun S => call_ty draw_ty)))) (fun x3 S => (ok2 (mulD_ok _ _)) S))) (fun x6 => x1_m (enc := vD PyData.int) (x2_p (enc := vD PyData.int) (xpa_p (xp_2 (u := vD PyData.bool (decide ((1 : Int) < unit_1))) (xp_var (i := 3) (v := (vD PyData.int unit_1)) rfl) xp_k (pr2 rfl)) (xpa_nil (v := vD PyData.int (if (decide ((1 : Int) < unit_1)) then (1 : Int) else 0)) (prA1 rfl))) (x1_m (enc := vD PyData.int) (x2_m (enc := vD PyData.int) (xa_p (enc := vD PyData.int) (xp_var (i := 0) (v := (.c 0)) rfl) (xa_p (enc := vD PyData.int) xp_k (xa_nil (enc := vD PyData.int) (fun S => call_ty draw_ty)))) (fun x4 => x1_p (enc := vD PyData.int) xp_k (ok2 (divD_ok _ _)))) (fun x5 S => (ok2 (mulD_ok _ _)) S))) (fun x7 S => (pr2 rfl) S))) (fun x8 => (xa_nil (enc := vD (eP2 true (eP2 true PyData.str PyData.str) PyData.int)) (fun _ => rfl))))))) (fun x9 => (xa_nil (enc := vD (eSq true (eP2 true (eP2 true PyData.str PyData.str) PyData.int))) (prA1 (fTuple_sq _))))) (fun _ => rfl)))))
noncomputable def t__law_lot (p_fords_so : (List ((Str × Str) × Int))) (p_tags : (List Str)) (p_water_so : Int) (p_first : Str) : TM (List Str) :=
  ((rangeT (((p_tags).length : Nat) : Int)) >>= fun xs_ => forT xs_ ([p_first] : ((List Str))) (fun (a3 : Int) (s2 : ((List Str))) => ((pure p_fords_so) >>= fun xs_ => forT xs_ (s2 : ((List Str))) (fun (a6 : ((Str × Str) × Int)) (s5 : ((List Str))) => ((if (decide (p_water_so < a6.2)) then ((pure ([a6.1, (a6.1.2, a6.1.1)] : List (Str × Str))) >>= fun xs_ => forT xs_ (s5 : ((List Str))) (fun (a10 : (Str × Str)) (s9 : ((List Str))) => (((okT (shp (PyData.str a10.1) && shp (eSq false PyData.str s9)) (decide (a10.1 ∈ s9))) >>= fun x11 => if x11 then (okT (shp (PyData.str a10.2) && shp (eSq false PyData.str s9)) (!decide (a10.2 ∈ s9))) else pure false) >>= fun c14 => (if c14 then (okT (decide ((s9).length ≤ big)) () >>= fun _ => (pure (s9 ++ [a10.2]))) else (pure s9)) >>= fun (s13 : ((List Str))) => (pure s13))) >>= fun (s15 : ((List Str))) => (pure s15)) else (pure s5)) >>= fun (s16 : ((List Str))) => (pure s16))) >>= fun (s17 : ((List Str))) => (pure s17))) >>= fun (s18 : ((List Str))) => ((okT (decide ((s18).length < 64)) (sortT s18)) >>= fun x19 => (pure x19)))
theorem ty__law_lot (p_fords_so : (List ((Str × Str) × Int))) (p_tags : (List Str)) (p_water_so : Int) (p_first : Str) (S : Sto) : Rf (vD (eSq true PyData.str)) (t__law_lot p_fords_so p_tags p_water_so p_first S) (f__law_lot [(vD (eSq true (eP2 true (eP2 true PyData.str PyData.str) PyData.int)) p_fords_so), (vD (eSq true PyData.str) p_tags), (vD PyData.int p_water_so), (vD PyData.str p_first)] S) := by
  refine fn_ty (n := 10) (Γ0 := [(0, (vD (eSq true (eP2 true (eP2 true PyData.str PyData.str) PyData.int)) p_fords_so)), (1, (vD (eSq true PyData.str) p_tags)), (2, (vD PyData.int p_water_so)), (3, (vD PyData.str p_first))]) (te := t__law_lot p_fords_so p_tags p_water_so p_first) (b := b__law_lot) ?_ (hΓ := ⟨rfl, rfl, rfl, rfl, trivial⟩)
  unfold b__law_lot t__law_lot
  exact (b_own1P (i := 4) (d := PyData.str p_first) (by decide) (xp_var (i := 3) (v := (vD PyData.str p_first)) rfl) (b_for (Δ := fun (s1 : ((List Str))) => [(4, (vO PyData.str s1)), (0, (vD (eSq true (eP2 true (eP2 true PyData.str PyData.str) PyData.int)) p_fords_so)), (1, (vD (eSq true PyData.str) p_tags)), (2, (vD PyData.int p_water_so)), (3, (vD PyData.str p_first))]) (G := fun (a3 : Int) => [(5, (vD PyData.int a3))]) gdT (xi_range1 (xpa_p (xp_var (i := 1) (v := (vD (eSq true PyData.str) p_tags)) rfl) (xpa_nil (v := vD PyData.int (((p_tags).length : Nat) : Int)) (prA1 (fLen_sq _))))) (s0 := [p_first]) ⟨rfl, rfl, rfl, rfl, rfl, trivial⟩ (fun a3 => (tg_n (by decide))) (fun a3 s2 => (b_last (b_for (Δ := fun (s4 : ((List Str))) => [(4, (vO PyData.str s4)), (0, (vD (eSq true (eP2 true (eP2 true PyData.str PyData.str) PyData.int)) p_fords_so)), (1, (vD (eSq true PyData.str) p_tags)), (2, (vD PyData.int p_water_so)), (3, (vD PyData.str p_first)), (5, (vD PyData.int a3))]) (G := fun (a6 : ((Str × Str) × Int)) => (([] ++ [(7, (vD PyData.int a6.2))]) ++ [(6, (vD (eP2 true PyData.str PyData.str) a6.1))])) gdQ (xi_seq (xp_var (i := 0) (v := (vD (eSq true (eP2 true (eP2 true PyData.str PyData.str) PyData.int)) p_fords_so)) rfl)) (s0 := s2) ⟨rfl, rfl, rfl, rfl, rfl, rfl, trivial⟩ (fun a6 => (tg_t (tgs_cons (tg_n (by decide)) (tgs_cons (tg_n (by decide)) tgs_nil)))) (fun a6 s5 => (b_last (b_ifP (Δ := fun (s7 : ((List Str))) => [(4, (vO PyData.str s7)), (0, (vD (eSq true (eP2 true (eP2 true PyData.str PyData.str) PyData.int)) p_fords_so)), (1, (vD (eSq true PyData.str) p_tags)), (2, (vD PyData.int p_water_so)), (3, (vD PyData.str p_first)), (5, (vD PyData.int a3)), (6, (vD (eP2 true PyData.str PyData.str) a6.1)), (7, (vD PyData.int a6.2))]) gdQ (xtp_val (xp_2 (u := vD PyData.bool (decide (p_water_so < a6.2))) (xp_var (i := 7) (v := (vD PyData.int a6.2)) rfl) (xp_var (i := 2) (v := (vD PyData.int p_water_so)) rfl) (pr2 rfl))) (b_last (b_for (Δ := fun (s8 : ((List Str))) => [(4, (vO PyData.str s8)), (0, (vD (eSq true (eP2 true (eP2 true PyData.str PyData.str) PyData.int)) p_fords_so)), (1, (vD (eSq true PyData.str) p_tags)), (2, (vD PyData.int p_water_so)), (3, (vD PyData.str p_first)), (5, (vD PyData.int a3)), (6, (vD (eP2 true PyData.str PyData.str) a6.1)), (7, (vD PyData.int a6.2))]) (G := fun (a10 : (Str × Str)) => (([] ++ [(9, (vD PyData.str a10.2))]) ++ [(8, (vD PyData.str a10.1))])) gdQ (xi_seq (xpa_p (xp_var (i := 6) (v := (vD (eP2 true PyData.str PyData.str) a6.1)) rfl) (xpa_p (xp_1 (w := vD (eP2 true PyData.str PyData.str) (a6.1.2, a6.1.1)) (xp_var (i := 6) (v := (vD (eP2 true PyData.str PyData.str) a6.1)) rfl) (pr1 (rev2_p _))) (xpa_nil (v := vD (eSq true (eP2 true PyData.str PyData.str)) ([a6.1, (a6.1.2, a6.1.1)] : List (Str × Str))) (fun _ => rfl))))) (s0 := s5) ⟨rfl, rfl, rfl, rfl, rfl, rfl, rfl, rfl, trivial⟩ (fun a10 => (tg_t (tgs_cons (tg_n (by decide)) (tgs_cons (tg_n (by decide)) tgs_nil)))) (fun a10 s9 => (b_last (b_if (Δ := fun (s12 : ((List Str))) => [(4, (vO PyData.str s12)), (0, (vD (eSq true (eP2 true (eP2 true PyData.str PyData.str) PyData.int)) p_fords_so)), (1, (vD (eSq true PyData.str) p_tags)), (2, (vD PyData.int p_water_so)), (3, (vD PyData.str p_first)), (5, (vD PyData.int a3)), (6, (vD (eP2 true PyData.str PyData.str) a6.1)), (7, (vD PyData.int a6.2)), (8, (vD PyData.str a10.1)), (9, (vD PyData.str a10.2))]) gdQ (xt_and (xt_val (x2_p (enc := vD PyData.bool) (xp_var (i := 8) (v := (vD PyData.str a10.1)) rfl) (x1_p (enc := vD PyData.bool) (xp_var (i := 4) (v := (vO PyData.str s9)) rfl) (inF_o eqS _ _)))) (xt_val (x2_p (enc := vD PyData.bool) (xp_var (i := 9) (v := (vD PyData.str a10.2)) rfl) (x1_p (enc := vD PyData.bool) (xp_var (i := 4) (v := (vO PyData.str s9)) rfl) (ninF_o eqS _ _))))) (b_last (b_appP (i := 4) (xs := s9) (x := a10.2) gdQ (by decide) rfl (xp_var (i := 9) (v := (vD PyData.str a10.2)) rfl) (b_endQ (s := (s9 ++ [a10.2])) ⟨rfl, rfl, rfl, rfl, rfl, rfl, rfl, rfl, rfl, rfl, trivial⟩))) (b_endQ (s := s9) ⟨rfl, rfl, rfl, rfl, rfl, rfl, rfl, rfl, rfl, rfl, trivial⟩) (fun s13 => (b_endQ (s := s13) ⟨rfl, rfl, rfl, rfl, rfl, rfl, rfl, rfl, trivial⟩))))) (fun s15 => (b_endQ (s := s15) ⟨rfl, rfl, rfl, rfl, rfl, rfl, rfl, rfl, trivial⟩)))) (b_endQ (s := s5) ⟨rfl, rfl, rfl, rfl, rfl, rfl, rfl, rfl, trivial⟩) (fun s16 => (b_endQ (s := s16) ⟨rfl, rfl, rfl, rfl, rfl, rfl, trivial⟩))))) (fun s17 => (b_endQ (s := s17) ⟨rfl, rfl, rfl, rfl, rfl, trivial⟩))))) (fun s18 => (b_last (b_retT (encE := vD (eSq true PyData.str)) (enc := vD (eSq true PyData.str)) (xa_m (enc := vD (eSq true PyData.str)) (xa_p (enc := vD (eSq false PyData.str)) (xp_var (i := 4) (v := (vO PyData.str s18)) rfl) (xa_nil (enc := vD (eSq false PyData.str)) (okA1o (fSortedB_str _)))) (fun x19 => (xa_nil (enc := vD (eSq true PyData.str)) (prA1 (fTuple_sq _))))) (fun _ => rfl))))))
noncomputable def t__law_met (p_fords_so : (List ((Str × Str) × Int))) (p_tags : (List Str)) (p_water_so : Int) (p_pair_so : (Str × Str)) : TM Bool :=
  ((t__law_lot p_fords_so p_tags p_water_so p_pair_so.1) >>= fun x1 => (okT (shp (PyData.str p_pair_so.2) && shp ((eSq true PyData.str) x1)) (decide (p_pair_so.2 ∈ x1))))
theorem ty__law_met (p_fords_so : (List ((Str × Str) × Int))) (p_tags : (List Str)) (p_water_so : Int) (p_pair_so : (Str × Str)) (S : Sto) : Rf (vD PyData.bool) (t__law_met p_fords_so p_tags p_water_so p_pair_so S) (f__law_met [(vD (eSq true (eP2 true (eP2 true PyData.str PyData.str) PyData.int)) p_fords_so), (vD (eSq true PyData.str) p_tags), (vD PyData.int p_water_so), (vD (eP2 true PyData.str PyData.str) p_pair_so)] S) := by
  refine fn_ty (n := 4) (Γ0 := [(0, (vD (eSq true (eP2 true (eP2 true PyData.str PyData.str) PyData.int)) p_fords_so)), (1, (vD (eSq true PyData.str) p_tags)), (2, (vD PyData.int p_water_so)), (3, (vD (eP2 true PyData.str PyData.str) p_pair_so))]) (te := t__law_met p_fords_so p_tags p_water_so p_pair_so) (b := b__law_met) ?_ (hΓ := ⟨rfl, rfl, rfl, rfl, trivial⟩)
  unfold b__law_met t__law_met
  exact (b_last (b_retT (encE := vD PyData.bool) (enc := vD PyData.bool) (x2_p (enc := vD PyData.bool) (xp_2 (u := vD PyData.str p_pair_so.2) (xp_var (i := 3) (v := (vD (eP2 true PyData.str PyData.str) p_pair_so)) rfl) xp_k (pr2 (ixAll_p1 _))) (x1_m (enc := vD PyData.bool) (xa_p (enc := vD (eSq true PyData.str)) (xp_var (i := 0) (v := (vD (eSq true (eP2 true (eP2 true PyData.str PyData.str) PyData.int)) p_fords_so)) rfl) (xa_p (enc := vD (eSq true PyData.str)) (xp_var (i := 1) (v := (vD (eSq true PyData.str) p_tags)) rfl) (xa_p (enc := vD (eSq true PyData.str)) (xp_var (i := 2) (v := (vD PyData.int p_water_so)) rfl) (xa_p (enc := vD (eSq true PyData.str)) (xp_2 (u := vD PyData.str p_pair_so.1) (xp_var (i := 3) (v := (vD (eP2 true PyData.str PyData.str) p_pair_so)) rfl) xp_k (pr2 (ixAll_p0 _))) (xa_nil (enc := vD (eSq true PyData.str)) (fun S => call_ty (ty__law_lot  p_fords_so p_tags p_water_so p_pair_so.1 S))))))) (fun x1 S => (ok2 (inF_ok eqS _ _)) S))) (fun _ => rfl)))
noncomputable def t__law_turns (p_fords_so : (List ((Str × Str) × Int))) : TM (List Int) :=
  ((pure p_fords_so) >>= fun xs_ => forT xs_ (([(0 : Int)] : List Int) : ((List Int))) (fun (a3 : ((Str × Str) × Int)) (s2 : ((List Int))) => ((okT (decide ((s2).length + (([a3.2, (a3.2 + (1 : Int)), (if (a3.2 - (1 : Int)) > (0 : Int) then (a3.2 - (1 : Int)) else (0 : Int))] : List Int)).length ≤ big)) (s2 ++ ([a3.2, (a3.2 + (1 : Int)), (if (a3.2 - (1 : Int)) > (0 : Int) then (a3.2 - (1 : Int)) else (0 : Int))] : List Int))) >>= fun (some_4 : (List Int)) => (pure some_4))) >>= fun (s5 : ((List Int))) => (okT (decide ((s5).length < 64)) (ascI s5)))
theorem ty__law_turns (p_fords_so : (List ((Str × Str) × Int))) (S : Sto) : Rf (vD (eSq false PyData.int)) (t__law_turns p_fords_so S) (f__law_turns [(vD (eSq true (eP2 true (eP2 true PyData.str PyData.str) PyData.int)) p_fords_so)] S) := by
  refine fn_ty (n := 4) (Γ0 := [(0, (vD (eSq true (eP2 true (eP2 true PyData.str PyData.str) PyData.int)) p_fords_so))]) (te := t__law_turns p_fords_so) (b := b__law_turns) ?_ (hΓ := ⟨rfl, trivial⟩)
  unfold b__law_turns t__law_turns
  exact (b_setP (i := 1) (d := (eSq false PyData.int) ([(0 : Int)] : List Int)) (by decide) (xpa_p xp_k (xpa_nil (v := vD (eSq false PyData.int) ([(0 : Int)] : List Int)) (fun _ => rfl))) (b_for (Δ := fun (s1 : ((List Int))) => [(1, (vD (eSq false PyData.int) s1)), (0, (vD (eSq true (eP2 true (eP2 true PyData.str PyData.str) PyData.int)) p_fords_so))]) (G := fun (a3 : ((Str × Str) × Int)) => (([] ++ [(3, (vD PyData.int a3.2))]) ++ [(2, (vD (eP2 true PyData.str PyData.str) a3.1))])) gdT (xi_seq (xp_var (i := 0) (v := (vD (eSq true (eP2 true (eP2 true PyData.str PyData.str) PyData.int)) p_fords_so)) rfl)) (s0 := ([(0 : Int)] : List Int)) ⟨rfl, rfl, trivial⟩ (fun a3 => (tg_t (tgs_cons (tg_n (by decide)) (tgs_cons (tg_n (by decide)) tgs_nil)))) (fun a3 s2 => (b_last (b_set (i := 1) (enc := (eSq false PyData.int)) gdQ (by decide) (x2_p (enc := vD (eSq false PyData.int)) (xp_var (i := 1) (v := (vD (eSq false PyData.int) s2)) rfl) (x1_p (enc := vD (eSq false PyData.int)) (xpa_p (xp_var (i := 3) (v := (vD PyData.int a3.2)) rfl) (xpa_p (xp_2 (u := vD PyData.int (a3.2 + (1 : Int))) (xp_var (i := 3) (v := (vD PyData.int a3.2)) rfl) xp_k (pr2 rfl)) (xpa_p (xpa_p xp_k (xpa_p (xp_2 (u := vD PyData.int (a3.2 - (1 : Int))) (xp_var (i := 3) (v := (vD PyData.int a3.2)) rfl) xp_k (pr2 rfl)) (xpa_nil (v := vD PyData.int (if (a3.2 - (1 : Int)) > (0 : Int) then (a3.2 - (1 : Int)) else (0 : Int))) (prA2 rfl)))) (xpa_nil (v := vD (eSq false PyData.int) ([a3.2, (a3.2 + (1 : Int)), (if (a3.2 - (1 : Int)) > (0 : Int) then (a3.2 - (1 : Int)) else (0 : Int))] : List Int)) (fun _ => rfl))))) (ok2 (addD_sq _ _)))) (fun some_4 => (b_endQ (s := some_4) ⟨rfl, rfl, trivial⟩))))) (fun s5 => (b_last (b_retT (encE := vD (eSq false PyData.int)) (enc := vD (eSq false PyData.int)) (x1_p (enc := vD (eSq false PyData.int)) (xp_var (i := 1) (v := (vD (eSq false PyData.int) s5)) rfl) (ok1 (ssA_int _))) (fun _ => rfl))))))
noncomputable def t__law_due (p_fords_so : (List ((Str × Str) × Int))) (p_tags : (List Str)) (p_wants_so : (List (Str × Str))) (p_own : (Str × Str)) : TM (Option Int) :=
  (((t__law_turns p_fords_so) >>= fun xs_ => forF xs_ (() : Unit) (fun (a3 : Int) (s2 : Unit) => (((((t__law_met p_fords_so p_tags a3 p_own) >>= fun x4 => pure (!x4)) >>= fun x8 => if x8 then (((pure p_wants_so) >>= fun xs_ => compM (fun (a5 : (Str × Str)) => ((t__law_met p_fords_so p_tags a3 a5) >>= fun x6 => pure (!x6))) (fun (a5 : (Str × Str)) => (pure a5 : TM (Str × Str))) xs_ >>= limT) >>= fun x7 => (okT (shp ((eSq false (eP2 true PyData.str PyData.str)) x7) && shp ((eSq false (eP2 true PyData.str PyData.str)) ([] : (List (Str × Str))))) (decide (x7 = ([] : (List (Str × Str))))))) else pure false) >>= fun c9 => if c9 then (pure (.rt (some a3))) else (pure (.nx ()))) : TM (Fl Unit (Option Int))))) >>= fun o_ => flE o_ (fun (s10 : Unit) => (pure none)) fun y_ => pure y_)
theorem ty__law_due (p_fords_so : (List ((Str × Str) × Int))) (p_tags : (List Str)) (p_wants_so : (List (Str × Str))) (p_own : (Str × Str)) (S : Sto) : Rf (vD (eO PyData.int)) (t__law_due p_fords_so p_tags p_wants_so p_own S) (f__law_due [(vD (eSq true (eP2 true (eP2 true PyData.str PyData.str) PyData.int)) p_fords_so), (vD (eSq true PyData.str) p_tags), (vD (eSq true (eP2 true PyData.str PyData.str)) p_wants_so), (vD (eP2 true PyData.str PyData.str) p_own)] S) := by
  refine fn_ty (n := 6) (Γ0 := [(0, (vD (eSq true (eP2 true (eP2 true PyData.str PyData.str) PyData.int)) p_fords_so)), (1, (vD (eSq true PyData.str) p_tags)), (2, (vD (eSq true (eP2 true PyData.str PyData.str)) p_wants_so)), (3, (vD (eP2 true PyData.str PyData.str) p_own))]) (te := t__law_due p_fords_so p_tags p_wants_so p_own) (b := b__law_due) ?_ (hΓ := ⟨rfl, rfl, rfl, rfl, trivial⟩)
  unfold b__law_due t__law_due
  exact (b_fT (Δ := fun (s1 : Unit) => [(0, (vD (eSq true (eP2 true (eP2 true PyData.str PyData.str) PyData.int)) p_fords_so)), (1, (vD (eSq true PyData.str) p_tags)), (2, (vD (eSq true (eP2 true PyData.str PyData.str)) p_wants_so)), (3, (vD (eP2 true PyData.str PyData.str) p_own))]) (forF_q (Δ := fun (s1 : Unit) => [(0, (vD (eSq true (eP2 true (eP2 true PyData.str PyData.str) PyData.int)) p_fords_so)), (1, (vD (eSq true PyData.str) p_tags)), (2, (vD (eSq true (eP2 true PyData.str PyData.str)) p_wants_so)), (3, (vD (eP2 true PyData.str PyData.str) p_own))]) (G := fun (a3 : Int) => [(4, (vD PyData.int a3))]) (xi_seqM (xa_p (enc := vD (eSq false PyData.int)) (xp_var (i := 0) (v := (vD (eSq true (eP2 true (eP2 true PyData.str PyData.str) PyData.int)) p_fords_so)) rfl) (xa_nil (enc := vD (eSq false PyData.int)) (fun S => call_ty (ty__law_turns  p_fords_so S))))) (s0 := ()) ⟨rfl, rfl, rfl, rfl, trivial⟩ (fun a3 => (tg_n (by decide))) (fun a3 s2 => (b_last (b_ifR gdF (xt_and (xt_not (xt_val (xa_p (enc := vD PyData.bool) (xp_var (i := 0) (v := (vD (eSq true (eP2 true (eP2 true PyData.str PyData.str) PyData.int)) p_fords_so)) rfl) (xa_p (enc := vD PyData.bool) (xp_var (i := 1) (v := (vD (eSq true PyData.str) p_tags)) rfl) (xa_p (enc := vD PyData.bool) (xp_var (i := 4) (v := (vD PyData.int a3)) rfl) (xa_p (enc := vD PyData.bool) (xp_var (i := 3) (v := (vD (eP2 true PyData.str PyData.str) p_own)) rfl) (xa_nil (enc := vD PyData.bool) (fun S => call_ty (ty__law_met  p_fords_so p_tags a3 p_own S))))))))) (xt_val (x2_m (enc := vD PyData.bool) (x_comp (f := (eP2 true PyData.str PyData.str)) (G := fun (a5 : (Str × Str)) => [(5, (vD (eP2 true PyData.str PyData.str) a5))]) (Γ' := [(0, (vD (eSq true (eP2 true (eP2 true PyData.str PyData.str) PyData.int)) p_fords_so)), (1, (vD (eSq true PyData.str) p_tags)), (2, (vD (eSq true (eP2 true PyData.str PyData.str)) p_wants_so)), (3, (vD (eP2 true PyData.str PyData.str) p_own)), (4, (vD PyData.int a3))]) (xi_seq (xp_var (i := 2) (v := (vD (eSq true (eP2 true PyData.str PyData.str)) p_wants_so)) rfl)) ⟨⟨rfl, rfl⟩, ⟨rfl, rfl⟩, ⟨rfl, rfl⟩, ⟨rfl, rfl⟩, ⟨rfl, rfl⟩, trivial⟩ (fun a5 => (tg_n (by decide))) (fun a5 => (xt_not (xt_val (xa_p (enc := vD PyData.bool) (xp_var (i := 0) (v := (vD (eSq true (eP2 true (eP2 true PyData.str PyData.str) PyData.int)) p_fords_so)) rfl) (xa_p (enc := vD PyData.bool) (xp_var (i := 1) (v := (vD (eSq true PyData.str) p_tags)) rfl) (xa_p (enc := vD PyData.bool) (xp_var (i := 4) (v := (vD PyData.int a3)) rfl) (xa_p (enc := vD PyData.bool) (xp_var (i := 5) (v := (vD (eP2 true PyData.str PyData.str) a5)) rfl) (xa_nil (enc := vD PyData.bool) (fun S => call_ty (ty__law_met  p_fords_so p_tags a3 a5 S)))))))))) (fun a5 => ((xp_var (i := 5) (v := (vD (eP2 true PyData.str PyData.str) a5)) rfl)).xe)) (fun x7 => x1_p (enc := vD PyData.bool) (xpa_nil (v := vD (eSq false (eP2 true PyData.str PyData.str)) []) (fun _ => rfl)) (ok2 (eqF_ok (eqSq (eqP2' eqS eqS)) _ _)))))) (b_retFP (v := vD (eO PyData.int) (some a3)) (enc := vD (eO PyData.int)) (xp_var (i := 4) (v := (vD PyData.int a3)) rfl) rfl) (b_nilseq (b_endF (s := ()) ⟨rfl, rfl, rfl, rfl, trivial⟩)))))) (fun s10 => (b_last (b_retTP (v := vD (eO PyData.int) none) (enc := vD (eO PyData.int)) xp_k rfl))))
noncomputable def t__law_case_right (p_tags : (List Str)) (p_fords_so : (List ((Str × Str) × Int))) : TM Bool :=
  ((believe (∀ S, (f__law_lists 8) [(vD (eSq true (eP2 true (eP2 true PyData.str PyData.str) PyData.int)) p_fords_so)] S = .ok (vD (eSq false (eP2 false (eP2 false PyData.str PyData.str) PyData.int)) p_fords_so) S) p_fords_so) >>= fun (soft_1 : (List ((Str × Str) × Int))) => (t__law_pairs p_tags) >>= fun (every_2 : (List (Str × Str))) => (((rangeT (6 : Int)) >>= fun xs_ => forF xs_ (() : Unit) (fun (a5 : Int) (s4 : Unit) => (((((((drawT f__law_take (3 : Int)) >>= fun x6 => (pure ((1 : Int) + x6))) >>= fun x7 => (t__law_pick every_2 x7)) >>= fun x8 => (okT (sortable ((x8).map (eP2 true PyData.str PyData.str))) (sortE false (eP2 true PyData.str PyData.str) x8))) >>= fun x9 => (pure x9)) >>= fun (wants_so_10 : (List (Str × Str))) => (t__law_of every_2) >>= fun (own_11 : (Str × Str)) => ((t__law_due p_fords_so p_tags wants_so_10 own_11) >>= fun (due_here_12 : (Option Int)) => (believe (∀ S, (f__law_lists 8) [(vD (eSq true (eP2 true PyData.str PyData.str)) wants_so_10)] S = .ok (vD (eSq false (eP2 false PyData.str PyData.str)) wants_so_10) S) wants_so_10) >>= fun (mild_13 : (List (Str × Str))) => (((t_broken_at true true true true true p_fords_so wants_so_10 own_11) >>= fun x14 => ((t_broken_at false false false false false soft_1 mild_13 own_11) >>= fun x15 => ((t_broken_at false false false false false soft_1 mild_13 own_11) >>= fun x16 => (pure ([x14, x15, x16] : List (Option Int)))))) >>= fun (got_17 : (List (Option Int))) => (((((t_fords_keep true true true true true p_fords_so wants_so_10 own_11) >>= fun x18 => ((t_fords_keep false false false false false soft_1 mild_13 own_11) >>= fun x19 => ((t_fords_keep true true true true true p_fords_so wants_so_10 own_11) >>= fun x20 => (pure ([x18, x19, x20] : List Bool))))) >>= fun x21 => pure (x21.map PyData.bool)) >>= fun x22 => (okT (decide ((((got_17).map (eO PyData.int))).length + (x22).length ≤ big)) (((got_17).map (eO PyData.int)) ++ x22))) >>= fun (got_23 : (List PyData)) => (((((((okT (decide (0 ≤ (3 : Int) ∧ (3 : Int) ≤ 1000 ∧ (([due_here_12] : List (Option Int))).length ≤ 1000)) (List.replicate ((3 : Int)).toNat ([due_here_12] : List (Option Int))).flatten) >>= fun x24 => pure (x24.map (eO PyData.int))) >>= fun x26 => ((okT (decide (0 ≤ (3 : Int) ∧ (3 : Int) ≤ 1000 ∧ (([(due_here_12).isNone] : List Bool)).length ≤ 1000)) (List.replicate ((3 : Int)).toNat ([(due_here_12).isNone] : List Bool)).flatten) >>= fun x25 => pure (x25.map PyData.bool)) >>= fun x27 => (okT (decide ((x26).length + (x27).length ≤ big)) (x26 ++ x27))) >>= fun x28 => (believe (∀ S, (f__law_same 8) [(vD (eSq false eId) got_23), (vD (eSq false eId) x28)] S = .ok (vD PyData.bool true) S) true)) >>= fun x29 => pure (!x29)) >>= fun x31 => if x31 then pure true else ((believe (∀ S, (f__law_lists 8) [(vD (eSq true (eP2 true PyData.str PyData.str)) wants_so_10)] S = .ok (vD (eSq false (eP2 false PyData.str PyData.str)) wants_so_10) S) wants_so_10) >>= fun x30 => (okT (shp ((eSq false (eP2 false PyData.str PyData.str)) mild_13) && shp ((eSq false (eP2 false PyData.str PyData.str)) x30)) (!decide (mild_13 = x30))))) >>= fun c32 => if c32 then (pure (.rt false)) else (pure (.nx ()))))))) : TM (Fl Unit Bool)))) >>= fun o_ => flE o_ (fun (s33 : Unit) => ((believe (∀ S, (f__law_lists 8) [(vD (eSq true (eP2 true (eP2 true PyData.str PyData.str) PyData.int)) p_fords_so)] S = .ok (vD (eSq false (eP2 false (eP2 false PyData.str PyData.str) PyData.int)) p_fords_so) S) p_fords_so) >>= fun x34 => (okT (shp ((eSq false (eP2 false (eP2 false PyData.str PyData.str) PyData.int)) soft_1) && shp ((eSq false (eP2 false (eP2 false PyData.str PyData.str) PyData.int)) x34)) (decide (soft_1 = x34))))) fun y_ => pure y_))
theorem ty__law_case_right (p_tags : (List Str)) (p_fords_so : (List ((Str × Str) × Int))) (S : Sto) : Rf (vD PyData.bool) (t__law_case_right p_tags p_fords_so S) (f__law_case_right [.c 0, (vD (eSq true PyData.str) p_tags), (vD (eSq true (eP2 true (eP2 true PyData.str PyData.str) PyData.int)) p_fords_so)] S) := by
  refine fn_ty (n := 11) (Γ0 := [(0, (.c 0)), (1, (vD (eSq true PyData.str) p_tags)), (2, (vD (eSq true (eP2 true (eP2 true PyData.str PyData.str) PyData.int)) p_fords_so))]) (te := t__law_case_right p_tags p_fords_so) (b := b__law_case_right) ?_ (hΓ := ⟨rfl, rfl, rfl, trivial⟩)
  unfold b__law_case_right t__law_case_right
  exact (b_par (i := 3) (j := 4) (enc := (eSq false (eP2 false (eP2 false PyData.str PyData.str) PyData.int))) (enc2 := (eSq false (eP2 true PyData.str PyData.str))) gdT (by decide) (by decide) (xa_p (enc := vD (eSq false (eP2 false (eP2 false PyData.str PyData.str) PyData.int))) (xp_var (i := 2) (v := (vD (eSq true (eP2 true (eP2 true PyData.str PyData.str) PyData.int)) p_fords_so)) rfl) (xa_nil (enc := vD (eSq false (eP2 false (eP2 false PyData.str PyData.str) PyData.int))) (fun S => call_ty (believe_ty (enc := vD (eSq false (eP2 false (eP2 false PyData.str PyData.str) PyData.int))) (x := p_fords_so) (r := (f__law_lists 8) [(vD (eSq true (eP2 true (eP2 true PyData.str PyData.str) PyData.int)) p_fords_so)]))))) (xa_p (enc := vD (eSq false (eP2 true PyData.str PyData.str))) (xp_var (i := 1) (v := (vD (eSq true PyData.str) p_tags)) rfl) (xa_nil (enc := vD (eSq false (eP2 true PyData.str PyData.str))) (fun S => call_ty (ty__law_pairs true p_tags S)))) (fun soft_1 every_2 => (b_fT (Δ := fun (s3 : Unit) => [(0, (.c 0)), (1, (vD (eSq true PyData.str) p_tags)), (2, (vD (eSq true (eP2 true (eP2 true PyData.str PyData.str) PyData.int)) p_fords_so)), (3, (vD (eSq false (eP2 false (eP2 false PyData.str PyData.str) PyData.int)) soft_1)), (4, (vD (eSq false (eP2 true PyData.str PyData.str)) every_2))]) (forF_q (Δ := fun (s3 : Unit) => [(0, (.c 0)), (1, (vD (eSq true PyData.str) p_tags)), (2, (vD (eSq true (eP2 true (eP2 true PyData.str PyData.str) PyData.int)) p_fords_so)), (3, (vD (eSq false (eP2 false (eP2 false PyData.str PyData.str) PyData.int)) soft_1)), (4, (vD (eSq false (eP2 true PyData.str PyData.str)) every_2))]) (G := fun (a5 : Int) => [(5, (vD PyData.int a5))]) (xi_range1 xp_k) (s0 := ()) ⟨rfl, rfl, rfl, rfl, rfl, trivial⟩ (fun a5 => (tg_n (by decide))) (fun a5 s4 => (b_par (i := 6) (j := 7) (enc := (eSq true (eP2 true PyData.str PyData.str))) (enc2 := (eP2 true PyData.str PyData.str)) gdF (by decide) (by decide) (xa_m (enc := vD (eSq true (eP2 true PyData.str PyData.str))) (xa_m (enc := vD (eSq false (eP2 true PyData.str PyData.str))) (xa_p (enc := vD (eSq false (eP2 true PyData.str PyData.str))) (xp_var (i := 0) (v := (.c 0)) rfl) (xa_p (enc := vD (eSq false (eP2 true PyData.str PyData.str))) (xp_var (i := 4) (v := (vD (eSq false (eP2 true PyData.str PyData.str)) every_2)) rfl) (xa_m (enc := vD (eSq false (eP2 true PyData.str PyData.str))) (x2_p (enc := vD PyData.int) xp_k (x1_m (enc := vD PyData.int) (xa_p (enc := vD PyData.int) (xp_var (i := 0) (v := (.c 0)) rfl) (xa_p (enc := vD PyData.int) xp_k (xa_nil (enc := vD PyData.int) (fun S => call_ty draw_ty)))) (fun x6 S => (pr2 rfl) S))) (fun x7 => (xa_nil (enc := vD (eSq false (eP2 true PyData.str PyData.str))) (fun S => call_ty (ty__law_pick false (eP2 true PyData.str PyData.str) every_2 x7 S))))))) (fun x8 => (xa_nil (enc := vD (eSq false (eP2 true PyData.str PyData.str))) (okA1 (fSortedB_tup tupP2 _))))) (fun x9 => (xa_nil (enc := vD (eSq true (eP2 true PyData.str PyData.str))) (prA1 (fTuple_sq _))))) (xa_p (enc := vD (eP2 true PyData.str PyData.str)) (xp_var (i := 0) (v := (.c 0)) rfl) (xa_p (enc := vD (eP2 true PyData.str PyData.str)) (xp_var (i := 4) (v := (vD (eSq false (eP2 true PyData.str PyData.str)) every_2)) rfl) (xa_nil (enc := vD (eP2 true PyData.str PyData.str)) (fun S => call_ty (ty__law_of false (eP2 true PyData.str PyData.str) every_2 S))))) (fun wants_so_10 own_11 => (b_par (i := 8) (j := 9) (enc := (eO PyData.int)) (enc2 := (eSq false (eP2 false PyData.str PyData.str))) gdF (by decide) (by decide) (xa_p (enc := vD (eO PyData.int)) (xp_var (i := 2) (v := (vD (eSq true (eP2 true (eP2 true PyData.str PyData.str) PyData.int)) p_fords_so)) rfl) (xa_p (enc := vD (eO PyData.int)) (xp_var (i := 1) (v := (vD (eSq true PyData.str) p_tags)) rfl) (xa_p (enc := vD (eO PyData.int)) (xp_var (i := 6) (v := (vD (eSq true (eP2 true PyData.str PyData.str)) wants_so_10)) rfl) (xa_p (enc := vD (eO PyData.int)) (xp_var (i := 7) (v := (vD (eP2 true PyData.str PyData.str) own_11)) rfl) (xa_nil (enc := vD (eO PyData.int)) (fun S => call_ty (ty__law_due  p_fords_so p_tags wants_so_10 own_11 S))))))) (xa_p (enc := vD (eSq false (eP2 false PyData.str PyData.str))) (xp_var (i := 6) (v := (vD (eSq true (eP2 true PyData.str PyData.str)) wants_so_10)) rfl) (xa_nil (enc := vD (eSq false (eP2 false PyData.str PyData.str))) (fun S => call_ty (believe_ty (enc := vD (eSq false (eP2 false PyData.str PyData.str))) (x := wants_so_10) (r := (f__law_lists 8) [(vD (eSq true (eP2 true PyData.str PyData.str)) wants_so_10)]))))) (fun due_here_12 mild_13 => (b_set (i := 10) (enc := (eSq false (eO PyData.int))) gdF (by decide) (xa_m (enc := vD (eSq false (eO PyData.int))) (xa_p (enc := vD (eO PyData.int)) (xp_var (i := 2) (v := (vD (eSq true (eP2 true (eP2 true PyData.str PyData.str) PyData.int)) p_fords_so)) rfl) (xa_p (enc := vD (eO PyData.int)) (xp_var (i := 6) (v := (vD (eSq true (eP2 true PyData.str PyData.str)) wants_so_10)) rfl) (xa_p (enc := vD (eO PyData.int)) (xp_var (i := 7) (v := (vD (eP2 true PyData.str PyData.str) own_11)) rfl) (xa_nil (enc := vD (eO PyData.int)) (fun S => call_ty (ty_broken_at true true true true true p_fords_so wants_so_10 own_11 S)))))) (fun x14 => (xa_m (enc := vD (eSq false (eO PyData.int))) (xa_p (enc := vD (eO PyData.int)) (xp_var (i := 3) (v := (vD (eSq false (eP2 false (eP2 false PyData.str PyData.str) PyData.int)) soft_1)) rfl) (xa_p (enc := vD (eO PyData.int)) (xp_var (i := 9) (v := (vD (eSq false (eP2 false PyData.str PyData.str)) mild_13)) rfl) (xa_p (enc := vD (eO PyData.int)) (xpa_p (xp_var (i := 7) (v := (vD (eP2 true PyData.str PyData.str) own_11)) rfl) (xpa_nil (v := vD (eP2 false PyData.str PyData.str) own_11) (prA1 (fList_p _)))) (xa_nil (enc := vD (eO PyData.int)) (fun S => call_ty (ty_broken_at false false false false false soft_1 mild_13 own_11 S)))))) (fun x15 => (xa_m (enc := vD (eSq false (eO PyData.int))) (x_kw0 (xa_p (enc := vD (eO PyData.int)) (xpa_p (xp_var (i := 7) (v := (vD (eP2 true PyData.str PyData.str) own_11)) rfl) (xpa_nil (v := vD (eP2 false PyData.str PyData.str) own_11) (prA1 (fList_p _)))) (xa_p (enc := vD (eO PyData.int)) (xp_var (i := 9) (v := (vD (eSq false (eP2 false PyData.str PyData.str)) mild_13)) rfl) (xa_p (enc := vD (eO PyData.int)) (xp_var (i := 3) (v := (vD (eSq false (eP2 false (eP2 false PyData.str PyData.str) PyData.int)) soft_1)) rfl) (xa_nil (enc := vD (eO PyData.int)) (fun S => callP_ty (ty_broken_at false false false false false soft_1 mild_13 own_11 S))))))) (fun x16 => (xa_nil (enc := vD (eSq false (eO PyData.int))) (fun _ => rfl)))))))) (fun got_17 => (b_set (i := 10) (enc := (eSq false eId)) gdF (by decide) (x2_p (enc := vD (eSq false eId)) (XP.toD (xp_var (i := 10) (v := (vD (eSq false (eO PyData.int)) got_17)) rfl)) (x1_m (enc := vD (eSq false eId)) (XE.toD (xa_m (enc := vD (eSq false PyData.bool)) (xa_p (enc := vD PyData.bool) (xp_var (i := 2) (v := (vD (eSq true (eP2 true (eP2 true PyData.str PyData.str) PyData.int)) p_fords_so)) rfl) (xa_p (enc := vD PyData.bool) (xp_var (i := 6) (v := (vD (eSq true (eP2 true PyData.str PyData.str)) wants_so_10)) rfl) (xa_p (enc := vD PyData.bool) (xp_var (i := 7) (v := (vD (eP2 true PyData.str PyData.str) own_11)) rfl) (xa_nil (enc := vD PyData.bool) (fun S => call_ty (ty_fords_keep true true true true true p_fords_so wants_so_10 own_11 S)))))) (fun x18 => (xa_m (enc := vD (eSq false PyData.bool)) (xa_p (enc := vD PyData.bool) (xp_var (i := 3) (v := (vD (eSq false (eP2 false (eP2 false PyData.str PyData.str) PyData.int)) soft_1)) rfl) (xa_p (enc := vD PyData.bool) (xp_var (i := 9) (v := (vD (eSq false (eP2 false PyData.str PyData.str)) mild_13)) rfl) (xa_p (enc := vD PyData.bool) (xpa_p (xp_var (i := 7) (v := (vD (eP2 true PyData.str PyData.str) own_11)) rfl) (xpa_nil (v := vD (eP2 false PyData.str PyData.str) own_11) (prA1 (fList_p _)))) (xa_nil (enc := vD PyData.bool) (fun S => call_ty (ty_fords_keep false false false false false soft_1 mild_13 own_11 S)))))) (fun x19 => (xa_m (enc := vD (eSq false PyData.bool)) (x_kw0 (xa_p (enc := vD PyData.bool) (xp_var (i := 7) (v := (vD (eP2 true PyData.str PyData.str) own_11)) rfl) (xa_p (enc := vD PyData.bool) (xp_var (i := 6) (v := (vD (eSq true (eP2 true PyData.str PyData.str)) wants_so_10)) rfl) (xa_p (enc := vD PyData.bool) (xp_var (i := 2) (v := (vD (eSq true (eP2 true (eP2 true PyData.str PyData.str) PyData.int)) p_fords_so)) rfl) (xa_nil (enc := vD PyData.bool) (fun S => callP_ty (ty_fords_keep true true true true true p_fords_so wants_so_10 own_11 S))))))) (fun x20 => (xa_nil (enc := vD (eSq false PyData.bool)) (fun _ => rfl))))))))) (fun x22 S => (ok2 (addD_sq _ _)) S))) (fun got_23 => (b_last (b_ifR gdF (xt_or (xt_not (xt_val (xa_p (enc := vD PyData.bool) (xp_var (i := 10) (v := (vD (eSq false eId) got_23)) rfl) (xa_m (enc := vD PyData.bool) (x2_m (enc := vD (eSq false eId)) (XE.toD (x2_p (enc := vD (eSq false (eO PyData.int))) (xpa_p (xp_var (i := 8) (v := (vD (eO PyData.int) due_here_12)) rfl) (xpa_nil (v := vD (eSq false (eO PyData.int)) ([due_here_12] : List (Option Int))) (fun _ => rfl))) (x1_p (enc := vD (eSq false (eO PyData.int))) xp_k (ok2 (repL_ok _ _))))) (fun x26 => x1_m (enc := vD (eSq false eId)) (XE.toD (x2_p (enc := vD (eSq false PyData.bool)) (xpa_p (xp_2 (u := vD PyData.bool (due_here_12).isNone) (xp_var (i := 8) (v := (vD (eO PyData.int) due_here_12)) rfl) xp_k (pr2 (isF_o nn_int _))) (xpa_nil (v := vD (eSq false PyData.bool) ([(due_here_12).isNone] : List Bool)) (fun _ => rfl))) (x1_p (enc := vD (eSq false PyData.bool)) xp_k (ok2 (repL_ok _ _))))) (fun x27 S => (ok2 (addD_sq _ _)) S))) (fun x28 => (xa_nil (enc := vD PyData.bool) (fun S => call_ty (believe_ty (r := (f__law_same 8) [(vD (eSq false eId) got_23), (vD (eSq false eId) x28)]))))))))) (xt_val (x2_p (enc := vD PyData.bool) (xp_var (i := 9) (v := (vD (eSq false (eP2 false PyData.str PyData.str)) mild_13)) rfl) (x1_m (enc := vD PyData.bool) (xa_p (enc := vD (eSq false (eP2 false PyData.str PyData.str))) (xp_var (i := 6) (v := (vD (eSq true (eP2 true PyData.str PyData.str)) wants_so_10)) rfl) (xa_nil (enc := vD (eSq false (eP2 false PyData.str PyData.str))) (fun S => call_ty (believe_ty (enc := vD (eSq false (eP2 false PyData.str PyData.str))) (x := wants_so_10) (r := (f__law_lists 8) [(vD (eSq true (eP2 true PyData.str PyData.str)) wants_so_10)]))))) (fun x30 S => (ok2 (neF_ok (eqSq (eqP2' eqS eqS)) _ _)) S))))) (b_retFP (v := vD PyData.bool false) (enc := vD PyData.bool) xp_k rfl) (b_nilseq (b_endF (s := ()) ⟨rfl, rfl, rfl, rfl, rfl, trivial⟩)))))))))))))) (fun s33 => (b_last (b_retT (encE := vD PyData.bool) (enc := vD PyData.bool) (x2_p (enc := vD PyData.bool) (xp_var (i := 3) (v := (vD (eSq false (eP2 false (eP2 false PyData.str PyData.str) PyData.int)) soft_1)) rfl) (x1_m (enc := vD PyData.bool) (xa_p (enc := vD (eSq false (eP2 false (eP2 false PyData.str PyData.str) PyData.int))) (xp_var (i := 2) (v := (vD (eSq true (eP2 true (eP2 true PyData.str PyData.str) PyData.int)) p_fords_so)) rfl) (xa_nil (enc := vD (eSq false (eP2 false (eP2 false PyData.str PyData.str) PyData.int))) (fun S => call_ty (believe_ty (enc := vD (eSq false (eP2 false (eP2 false PyData.str PyData.str) PyData.int))) (x := p_fords_so) (r := (f__law_lists 8) [(vD (eSq true (eP2 true (eP2 true PyData.str PyData.str) PyData.int)) p_fords_so)]))))) (fun x34 S => (ok2 (eqF_ok (eqSq (eqP2' (eqP2' eqS eqS) eqI)) _ _)) S))) (fun _ => rfl)))))))
noncomputable def t__law_right : TM Bool :=
  (((rangeT (6 : Int)) >>= fun xs_ => forF xs_ (() : Unit) (fun (a3 : Int) (s2 : Unit) => (((((drawT f__law_take (3 : Int)) >>= fun x4 => (pure ((3 : Int) + x4))) >>= fun x5 => (t__law_isles x5)) >>= fun (tags_6 : (List Str)) => ((((t__law_fords tags_6 (4 : Int)) >>= fun x7 => (t__law_case_right tags_6 x7)) >>= fun x8 => pure (!x8)) >>= fun c9 => if c9 then (pure (.rt false)) else (pure (.nx ())))) : TM (Fl Unit Bool)))) >>= fun o_ => flE o_ (fun (s10 : Unit) => (pure true)) fun y_ => pure y_)
theorem ty__law_right (S : Sto) : Rf (vD PyData.bool) (t__law_right  S) (f__law_right [.c 0] S) := by
  refine fn_ty (n := 3) (Γ0 := [(0, (.c 0))]) (te := t__law_right ) (b := b__law_right) ?_ (hΓ := ⟨rfl, trivial⟩)
  unfold b__law_right t__law_right
  exact (b_fT (Δ := fun (s1 : Unit) => [(0, (.c 0))]) (forF_q (Δ := fun (s1 : Unit) => [(0, (.c 0))]) (G := fun (a3 : Int) => [(1, (vD PyData.int a3))]) (xi_range1 xp_k) (s0 := ()) ⟨rfl, trivial⟩ (fun a3 => (tg_n (by decide))) (fun a3 s2 => (b_set (i := 2) (enc := (eSq true PyData.str)) gdF (by decide) (xa_p (enc := vD (eSq true PyData.str)) (xp_var (i := 0) (v := (.c 0)) rfl) (xa_m (enc := vD (eSq true PyData.str)) (x2_p (enc := vD PyData.int) xp_k (x1_m (enc := vD PyData.int) (xa_p (enc := vD PyData.int) (xp_var (i := 0) (v := (.c 0)) rfl) (xa_p (enc := vD PyData.int) xp_k (xa_nil (enc := vD PyData.int) (fun S => call_ty draw_ty)))) (fun x4 S => (pr2 rfl) S))) (fun x5 => (xa_nil (enc := vD (eSq true PyData.str)) (fun S => call_ty (ty__law_isles  x5 S)))))) (fun tags_6 => (b_last (b_ifR gdF (xt_not (xt_val (xa_p (enc := vD PyData.bool) (xp_var (i := 0) (v := (.c 0)) rfl) (xa_p (enc := vD PyData.bool) (xp_var (i := 2) (v := (vD (eSq true PyData.str) tags_6)) rfl) (xa_m (enc := vD PyData.bool) (xa_p (enc := vD (eSq true (eP2 true (eP2 true PyData.str PyData.str) PyData.int))) (xp_var (i := 0) (v := (.c 0)) rfl) (xa_p (enc := vD (eSq true (eP2 true (eP2 true PyData.str PyData.str) PyData.int))) (xp_var (i := 2) (v := (vD (eSq true PyData.str) tags_6)) rfl) (xa_p (enc := vD (eSq true (eP2 true (eP2 true PyData.str PyData.str) PyData.int))) xp_k (xa_nil (enc := vD (eSq true (eP2 true (eP2 true PyData.str PyData.str) PyData.int))) (fun S => call_ty (ty__law_fords  tags_6 (4 : Int) S)))))) (fun x7 => (xa_nil (enc := vD PyData.bool) (fun S => call_ty (ty__law_case_right  tags_6 x7 S))))))))) (b_retFP (v := vD PyData.bool false) (enc := vD PyData.bool) xp_k rfl) (b_nilseq (b_endF (s := ()) ⟨rfl, trivial⟩)))))))) (fun s10 => (b_last (b_retTP (v := vD PyData.bool true) (enc := vD PyData.bool) xp_k rfl))))
end Sm

set_option maxHeartbeats 4000000
namespace Sm
open PySem PySem.Spec PyProof.Rows L2 Lf

/-! # what typed functions return -/
def Pu {α : Type} (t : TM α) (P : α → Prop) : Prop := ∃ r, t = pure r ∧ P r
def Dr {α : Type} (k : Nat) (t : TM α) (P : α → Prop) : Prop := ∀ (n : Nat) (S : Sto), UrnOk (n + k) S → ∃ r S', t S = .ok r S' ∧ P r ∧ UrnOk n S'
section
variable {α β σ γ : Type} {t : TM α} {P P' : α → Prop} {Q : β → Prop} {g : α → TM β} {a b : Nat} {x : α}
theorem Pu.pure (h : P x) : Pu (pure x) P := ⟨x, rfl, h⟩
theorem Pu.bind (h : Pu t P) (k : ∀ x, P x → Pu (g x) Q) : Pu (t >>= g) Q := by
  obtain ⟨r, e, p⟩ := h
  obtain ⟨r', e', p'⟩ := k r p
  exact ⟨r', by rw [e, pure_bind, e'], p'⟩
theorem Pu.mono (h : Pu t P) (k : ∀ x, P x → P' x) : Pu t P' := by
  obtain ⟨r, e, p⟩ := h
  exact ⟨r, e, k r p⟩
theorem Pu.okT {p : Bool} (h : p = true) (hx : P x) : Pu (okT p x) P := ⟨x, by rw [h]; rfl, hx⟩
theorem Pu.someT {o : Option α} (h : o = some x) (hx : P x) : Pu (someT o) P := ⟨x, by rw [h]; rfl, hx⟩
theorem Pu.believe {p : Prop} (h : p) (hx : P x) : Pu (believe p x) P := ⟨x, believe_ok h, hx⟩
theorem Pu.q (h : Pu t P) : Pu t.quiet P := by
  obtain ⟨r, e, p⟩ := h
  exact ⟨r, by rw [e, quiet_pure], p⟩
theorem Pu.eq (h : Pu t (· = x)) : t = Pure.pure x := by
  obtain ⟨r, e, rfl⟩ := h
  exact e
theorem Pu.of (h : t = Pure.pure x) (hx : P x) : Pu t P := ⟨x, h, hx⟩
theorem Pu.dr (h : Pu t P) : Dr 0 t P := fun n S u => by
  obtain ⟨r, e, p⟩ := h
  exact ⟨r, S, by rw [e]; rfl, p, u⟩
theorem Dr.le (h : Dr a t P) (e : a ≤ b) : Dr b t P := fun n S u => by
  obtain ⟨r, S', h1, h2, h3⟩ := h (n + (b - a)) S (by rw [Nat.add_assoc, Nat.sub_add_cancel e]; exact u)
  exact ⟨r, S', h1, h2, h3.le (Nat.le_add_right _ _)⟩
theorem Dr.mono (h : Dr a t P) (k : ∀ x, P x → P' x) : Dr a t P' := fun n S u => by
  obtain ⟨r, S', h1, h2, h3⟩ := h n S u
  exact ⟨r, S', h1, k r h2, h3⟩
theorem Dr.bind (h : Dr a t P) (k : ∀ x, P x → Dr b (g x) Q) : Dr (a + b) (t >>= g) Q := fun n S u => by
  obtain ⟨r, S', h1, h2, h3⟩ := h (n + b) S (by rw [Nat.add_assoc, Nat.add_comm b a]; exact u)
  obtain ⟨r', S'', k1, k2, k3⟩ := k r h2 n S' h3
  exact ⟨r', S'', by rw [tm_bind, h1]; exact k1, k2, k3⟩
/-- first what is pure -/
theorem Dr.pu (h : Pu t P) (k : ∀ x, P x → Dr b (g x) Q) : Dr b (t >>= g) Q := by
  have := Dr.bind h.dr k
  rw [Nat.zero_add] at this
  exact this
theorem Dr.pure (h : P x) : Dr 0 (Pure.pure x) P := (Pu.pure h).dr
theorem Dr.q (h : Dr a t P) : Dr a t.quiet P := fun n S u => by
  obtain ⟨r, S', h1, h2, h3⟩ := h n S u
  refine ⟨r, S', ?_, h2, h3⟩
  show (t S).quiet = _
  rw [h1]
  rfl
theorem Dr.draw {low : Int} (h1 : 1 ≤ low) (h2 : low < 1000000) : Dr 1 (drawT takeF low) (fun r => 0 ≤ r ∧ r < low) := fun n S u => by
  obtain ⟨r, S', e1, e2, e3, e4⟩ := take_ok u h1 (smallI_lt (by omega) (by omega))
  refine ⟨r, S', ?_, ⟨e2, e3⟩, e4⟩
  show (match takeF [.c 0, .d (.int low)] S with
    | .ok (.d (.int r)) S' => R.ok r S'
    | _ => .no) = _
  rw [e1]
/-! loops -/
variable {xs : List α} {f : α → σ → TM σ} {s : σ}
theorem Pu.forT' (I : List α → σ → Prop) : ∀ (xs pre : List α) (s : σ), (∀ p y q s, pre ++ xs = p ++ y :: q → I p s → Pu (f y s) (I (p ++ [y]))) → I pre s → Pu (forT xs s f) (I (pre ++ xs))
  | [], pre, s, h, h0 => Pu.pure (by rw [List.append_nil]; exact h0)
  | y :: xs, pre, s, h, h0 => by
    refine Pu.bind (h pre y xs s rfl h0) fun s1 h1 => ?_
    have := Pu.forT' I xs (pre ++ [y]) s1 (fun p z q s2 e => h p z q s2 (by rw [← e, List.append_assoc]; rfl)) h1
    rw [List.append_assoc] at this
    exact this
theorem Pu.forT (I : List α → σ → Prop) (h : ∀ p y q s, xs = p ++ y :: q → I p s → Pu (f y s) (I (p ++ [y]))) (h0 : I [] s) : Pu (forT xs s f) (I xs) := Pu.forT' I xs [] s h h0
theorem Dr.forT' (I : List α → σ → Prop) : ∀ (xs pre : List α) (s : σ), (∀ p y q s, pre ++ xs = p ++ y :: q → I p s → Dr a (f y s) (I (p ++ [y]))) → I pre s → Dr (xs.length * a) (forT xs s f) (I (pre ++ xs))
  | [], pre, s, h, h0 => (Dr.pure (by rw [List.append_nil]; exact h0)).le (Nat.zero_le _)
  | y :: xs, pre, s, h, h0 => by
    rw [List.length_cons, Nat.succ_mul, Nat.add_comm]
    refine Dr.bind (h pre y xs s rfl h0) fun s1 h1 => ?_
    have := Dr.forT' I xs (pre ++ [y]) s1 (fun p z q s2 e => h p z q s2 (by rw [← e, List.append_assoc]; rfl)) h1
    rw [List.append_assoc] at this
    exact this
theorem Dr.forT (I : List α → σ → Prop) (h : ∀ p y q s, xs = p ++ y :: q → I p s → Dr a (f y s) (I (p ++ [y]))) (h0 : I [] s) : Dr (xs.length * a) (forT xs s f) (I xs) := Dr.forT' I xs [] s h h0
theorem Dr.forF {f : α → σ → TM (Fl σ γ)} (I : σ → Prop) : ∀ (xs : List α) (s : σ), (∀ y s, I s → Dr a (f y s) (fun o => ∃ s', o = .nx s' ∧ I s')) → I s → Dr (xs.length * a) (forF xs s f) (fun o => ∃ s', o = .nx s' ∧ I s')
  | [], s, h, h0 => (Dr.pure ⟨s, rfl, h0⟩).le (Nat.zero_le _)
  | y :: xs, s, h, h0 => by
    rw [List.length_cons, Nat.succ_mul, Nat.add_comm]
    refine Dr.bind (h y s h0) fun o ⟨s1, e, h1⟩ => ?_
    subst e
    exact Dr.forF I xs s1 h h1
theorem Dr.compF {te : α → TM β} (f : β → α) (Q : β → Prop) : ∀ xs : List α, (∀ y ∈ xs, Dr a (te y) (fun z => f z = y ∧ Q z)) → Dr (xs.length * a) (compM (fun _ => Pure.pure true) te xs) (fun ys => ys.map f = xs ∧ ∀ y ∈ ys, Q y)
  | [], _ => (Dr.pure ⟨rfl, (fun y hy => by cases hy)⟩).le (Nat.zero_le _)
  | y :: xs, h => by
    rw [List.length_cons, Nat.succ_mul, Nat.add_comm]
    unfold compM
    rw [quiet_pure, pure_bind, if_pos rfl]
    refine Dr.bind (h y (List.mem_cons_self ..)).q fun z ⟨h1, h2⟩ => ?_
    have := Dr.bind (Dr.compF f Q xs fun w hw => h w (List.mem_cons_of_mem _ hw)) (b := 0) (g := fun ys => Pure.pure (z :: ys)) (Q := fun ys => ys.map f = y :: xs ∧ ∀ y ∈ ys, Q y) fun ys ⟨k1, k2⟩ => Dr.pure ⟨by rw [List.map_cons, h1, k1], fun w hw => by
      rcases List.mem_cons.mp hw with rfl | hw
      · exact h2
      · exact k2 w hw⟩
    exact this
/-- a comprehension whose pieces are pure -/
theorem compM_of {tt : α → TM Bool} {te : α → TM β} {p : α → Bool} {g : α → β} : ∀ xs : List α, (∀ x ∈ xs, tt x = Pure.pure (p x) ∧ te x = Pure.pure (g x)) → compM tt te xs = Pure.pure ((xs.filter p).map g)
  | [], _ => rfl
  | x :: xs, h => by
    unfold compM
    obtain ⟨h1, h2⟩ := h x (List.mem_cons_self ..)
    rw [compM_of xs fun z hz => h z (List.mem_cons_of_mem _ hz), h1, h2]
    cases e : p x with
    | true => rw [List.filter_cons_of_pos e]; simp
    | false => rw [List.filter_cons_of_neg (by simp [e])]; simp
theorem compM_map {te : α → TM β} {g : α → β} (xs : List α) (h : ∀ x ∈ xs, te x = Pure.pure (g x)) : compM (fun _ => Pure.pure true) te xs = Pure.pure (xs.map g) := by
  rw [compM_of (p := fun _ => true) xs fun x hx => ⟨rfl, h x hx⟩, List.filter_eq_self.mpr fun _ _ => rfl]
theorem dcM_congr {κ : Type} [DecidableEq κ] {tt tt' : α → TM Bool} {tk tk' : α → TM κ} {tv tv' : α → TM β} : ∀ (xs : List α) (acc : List (κ × β)), (∀ x ∈ xs, tt x = tt' x ∧ tk x = tk' x ∧ tv x = tv' x) → dcM tt tk tv xs acc = dcM tt' tk' tv' xs acc
  | [], _, _ => rfl
  | x :: xs, acc, h => by
    obtain ⟨h1, h2, h3⟩ := h x (List.mem_cons_self ..)
    unfold dcM
    rw [h1, h2, h3]
    congr 1
    funext c
    cases c
    · exact dcM_congr xs acc fun z hz => h z (List.mem_cons_of_mem _ hz)
    · show _ >>= _ = _ >>= _
      congr 1
      funext k
      congr 1
      funext v
      exact dcM_congr xs _ fun z hz => h z (List.mem_cons_of_mem _ hz)
end
/-! ## dicts -/
section
variable {κ α : Type} [DecidableEq κ]
theorem getL_put (m : List (κ × α)) (k : κ) (v : α) (q : κ) : getL (putL m k v) q = if k = q then some v else getL m q := by
  unfold putL
  split
  · rename_i h
    obtain ⟨p, hp, e⟩ := List.any_eq_true.mp h
    have e := of_decide_eq_true e
    unfold getL
    clear h
    induction m with
    | nil => cases hp
    | cons c m ih =>
      rw [List.map_cons, List.find?_cons, List.find?_cons]
      by_cases hc : c.1 = k
      · by_cases hq : k = q
        · simp [hc, hq]
        · rw [if_neg hq]
          have : ¬ c.1 = q := fun z => hq (hc ▸ z)
          simp only [hc, if_true, hq, decide_false]
          by_cases hm : p ∈ m
          · have := ih hm
            rw [if_neg hq] at this
            simpa [hq] using this
          · -- no other k
            have g : ∀ m' : List (κ × α), (m'.map fun p => if p.1 = k then (p.1, v) else p).find? (fun p => decide (p.1 = q)) = m'.find? fun p => decide (p.1 = q) := fun m' => by
              induction m' with
              | nil => rfl
              | cons d m' ih' =>
                rw [List.map_cons, List.find?_cons, List.find?_cons, ih']
                by_cases hd : d.1 = k
                · simp [hd, hq]
                · simp [hd]
            rw [g]
      · have hm : p ∈ m := by
          rcases List.mem_cons.mp hp with rfl | hm
          · exact absurd e hc
          · exact hm
        have := ih hm
        by_cases hq : c.1 = q
        · have hkq : ¬ k = q := fun z => hc (hq.trans z.symm)
          rw [if_neg hc, if_neg hkq, decide_eq_true hq]
        · simp only [hc, if_false, hq, decide_false]
          exact this
  · rename_i h
    unfold getL
    rw [List.find?_append]
    cases e : m.find? fun p => decide (p.1 = q) with
    | some c =>
      have h1 : c.1 = q := by
        have := List.find?_some e
        exact of_decide_eq_true this
      have : ¬ k = q := fun z => h (List.any_eq_true.mpr ⟨c, List.mem_of_find?_eq_some e, decide_eq_true (h1.trans z.symm)⟩)
      simp [this]
    | none =>
      by_cases hq : k = q <;> simp [hq]
theorem put_len (m : List (κ × α)) (k : κ) (v : α) : (putL m k v).length ≤ m.length + 1 := by
  unfold putL
  split
  · rw [List.length_map]; omega
  · rw [List.length_append]; exact Nat.le_refl _
theorem getL_none {m : List (κ × α)} {k : κ} : getL m k = none ↔ k ∉ m.map (·.1) := by
  unfold getL
  rw [Option.map_eq_none_iff, List.find?_eq_none]
  constructor
  · intro h hk
    obtain ⟨p, hp, rfl⟩ := List.mem_map.mp hk
    exact h p hp (by simp)
  · intro h p hp e
    exact h (List.mem_map.mpr ⟨p, hp, of_decide_eq_true e⟩)
theorem dcP_get {β : Type} (gv : κ → β) : ∀ (xs : List κ) (acc : List (κ × β)) (q : κ), getL (dcP (fun _ => true) id gv xs acc) q = if q ∈ xs then some (gv q) else getL acc q
  | [], acc, q => by simp [dcP]
  | x :: xs, acc, q => by
    unfold dcP
    rw [if_pos rfl, dcP_get gv xs]
    by_cases h : q ∈ xs
    · simp [h]
    · rw [if_neg h, id, getL_put]
      by_cases e : x = q
      · subst e; simp
      · simp [e, Ne.symm e, h]
theorem dcP_len {β : Type} (gv : κ → β) : ∀ (xs : List κ) (acc : List (κ × β)), (dcP (fun _ => true) id gv xs acc).length ≤ xs.length + acc.length
  | [], acc => by simp [dcP]
  | x :: xs, acc => by
    unfold dcP
    rw [if_pos rfl]
    have := dcP_len gv xs (putL acc (id x) (gv x))
    have := put_len acc (id x) (gv x)
    rw [List.length_cons]
    omega
/-- m says g of V -/
structure Rep (m : List (κ × α)) (V : List κ) (g : κ → α) : Prop where
  ok : ∀ x ∈ V, getL m x = some (g x)
  no : ∀ x, x ∉ V → getL m x = none
  len : m.length ≤ V.length
theorem Rep.keys {m : List (κ × α)} {V : List κ} {g : κ → α} (h : Rep m V g) (x : κ) : x ∈ m.map (·.1) ↔ x ∈ V := by
  refine ⟨fun hx => ?_, fun hx => ?_⟩
  · apply Decidable.byContradiction
    intro hn
    exact getL_none.mp (h.no x hn) hx
  · apply Decidable.byContradiction
    intro hn
    exact absurd (h.ok x hx) (by rw [getL_none.mpr hn]; simp)
end
end Sm

set_option maxHeartbeats 4000000
namespace Sm
open PySem PySem.Spec PyProof.Rows L2 Lf

/-! # what is joined by pairs -/
inductive Cn {α : Type} (E : List (α × α)) : α → α → Prop
  | rf (x : α) : Cn E x x
  | st {x y z : α} : Cn E x y → ((y, z) ∈ E ∨ (z, y) ∈ E) → Cn E x z
section
variable {α : Type} {E E' : List (α × α)} {x y z : α} {p : α × α}
theorem Cn.one (h : (x, y) ∈ E) : Cn E x y := .st (.rf x) (.inl h)
theorem Cn.trans (h : Cn E x y) (k : Cn E y z) : Cn E x z := by
  induction k with
  | rf => exact h
  | st _ e ih => exact .st ih e
theorem Cn.symm (h : Cn E x y) : Cn E y x := by
  induction h with
  | rf => exact .rf _
  | st _ e ih => exact (Cn.st (.rf _) e.symm).trans ih
theorem Cn.mono (h : Cn E x y) (k : ∀ e ∈ E, e ∈ E') : Cn E' x y := by
  induction h with
  | rf => exact .rf _
  | st _ e ih => exact .st ih (e.elim (fun e => .inl (k _ e)) fun e => .inr (k _ e))
theorem cn_snoc : Cn (E ++ [p]) x y ↔ Cn E x y ∨ (Cn E x p.1 ∧ Cn E p.2 y) ∨ (Cn E x p.2 ∧ Cn E p.1 y) := by
  obtain ⟨a, b⟩ := p
  have m : ∀ e ∈ E, e ∈ E ++ [(a, b)] := fun e he => List.mem_append_left _ he
  have l : Cn (E ++ [(a, b)]) a b := .one (List.mem_append_right _ (List.mem_cons_self ..))
  constructor
  · intro h
    induction h with
    | rf => exact .inl (.rf _)
    | st h e ih =>
      rename_i y z
      have go : ((y, z) ∈ E ∨ (z, y) ∈ E) ∨ (y = a ∧ z = b) ∨ (y = b ∧ z = a) := by
        rcases e with e | e
        · rcases List.mem_append.mp e with e | e
          · exact .inl (.inl e)
          · rw [List.mem_singleton] at e
            cases e
            exact .inr (.inl ⟨rfl, rfl⟩)
        · rcases List.mem_append.mp e with e | e
          · exact .inl (.inr e)
          · rw [List.mem_singleton] at e
            cases e
            exact .inr (.inr ⟨rfl, rfl⟩)
      rcases go with e | ⟨rfl, rfl⟩ | ⟨rfl, rfl⟩
      · rcases ih with i | ⟨i, j⟩ | ⟨i, j⟩
        · exact .inl (.st i e)
        · exact .inr (.inl ⟨i, .st j e⟩)
        · exact .inr (.inr ⟨i, .st j e⟩)
      · rcases ih with i | ⟨i, j⟩ | ⟨i, j⟩
        · exact .inr (.inl ⟨i, .rf _⟩)
        · exact .inr (.inl ⟨i, .rf _⟩)
        · exact .inl i
      · rcases ih with i | ⟨i, j⟩ | ⟨i, j⟩
        · exact .inr (.inr ⟨i, .rf _⟩)
        · exact .inl i
        · exact .inr (.inr ⟨i, .rf _⟩)
  · rintro (h | ⟨h, k⟩ | ⟨h, k⟩)
    · exact h.mono m
    · exact (h.mono m).trans (l.trans (k.mono m))
    · exact (h.mono m).trans (l.symm.trans (k.mono m))
end
abbrev Pt := Str × Str
abbrev Fo := List (Pt × Int)
/-- the fords that stand above the water -/
def above (F : Fo) (w : Int) : List Pt := (F.filter fun f => decide (w < f.2)).map (·.1)
theorem mem_above {F : Fo} {w : Int} {e : Pt} : e ∈ above F w ↔ ∃ h, (e, h) ∈ F ∧ w < h := by
  unfold above
  rw [List.mem_map]
  constructor
  · rintro ⟨⟨e', h⟩, hf, rfl⟩
    obtain ⟨h1, h2⟩ := List.mem_filter.mp hf
    exact ⟨h, h1, of_decide_eq_true h2⟩
  · rintro ⟨h, h1, h2⟩
    exact ⟨(e, h), List.mem_filter.mpr ⟨h1, decide_eq_true h2⟩, rfl⟩
/-! marks -/
def Mk (V : List Str) (E : List Pt) (g : Str → Str) : Prop := ∀ x ∈ V, ∀ y ∈ V, (g x = g y ↔ Cn E x y)
theorem Mk.snoc {V : List Str} {E : List Pt} {g : Str → Str} {p : Pt} {lo hi : Str} (m : Mk V E g) (h1 : p.1 ∈ V) (h2 : p.2 ∈ V) (h : (lo = g p.1 ∧ hi = g p.2) ∨ (lo = g p.2 ∧ hi = g p.1)) : Mk V (E ++ [p]) (fun x => if g x = hi then lo else g x) := by
  intro x hx y hy
  have key : ((if g x = hi then lo else g x) = (if g y = hi then lo else g y)) ↔ g x = g y ∨ (g x = lo ∧ g y = hi) ∨ (g x = hi ∧ g y = lo) := by
    by_cases a : g x = hi
    · by_cases b : g y = hi
      · simp [a, b]
      · rw [if_pos a, if_neg b]
        constructor
        · intro e; exact .inr (.inr ⟨a, e.symm⟩)
        · rintro (e | ⟨_, e⟩ | ⟨_, e⟩)
          · exact absurd (e.symm.trans a) b
          · exact absurd e b
          · exact e.symm
    · by_cases b : g y = hi
      · rw [if_neg a, if_pos b]
        constructor
        · intro e; exact .inr (.inl ⟨e, b⟩)
        · rintro (e | ⟨e, _⟩ | ⟨e, _⟩)
          · exact absurd (e.trans b) a
          · exact e
          · exact absurd e a
      · rw [if_neg a, if_neg b]
        constructor
        · intro e; exact .inl e
        · rintro (e | ⟨_, e⟩ | ⟨e, _⟩)
          · exact e
          · exact absurd e b
          · exact absurd e a
  show ((if g x = hi then lo else g x) = (if g y = hi then lo else g y)) ↔ _
  rw [key, cn_snoc, m x hx y hy]
  have c1 := m x hx _ h1
  have c2 := m x hx _ h2
  have d1 := m y hy _ h1
  have d2 := m y hy _ h2
  rcases h with ⟨rfl, rfl⟩ | ⟨rfl, rfl⟩
  · rw [c1, c2, d1, d2]
    exact ⟨fun h => h.elim .inl fun h => h.elim (fun h => .inr (.inl ⟨h.1, h.2.symm⟩)) fun h => .inr (.inr ⟨h.1, h.2.symm⟩), fun h => h.elim .inl fun h => h.elim (fun h => .inr (.inl ⟨h.1, h.2.symm⟩)) fun h => .inr (.inr ⟨h.1, h.2.symm⟩)⟩
  · rw [c1, c2, d1, d2]
    exact ⟨fun h => h.elim .inl fun h => h.elim (fun h => .inr (.inr ⟨h.1, h.2.symm⟩)) fun h => .inr (.inl ⟨h.1, h.2.symm⟩), fun h => h.elim .inl fun h => h.elim (fun h => .inr (.inr ⟨h.1, h.2.symm⟩)) fun h => .inr (.inl ⟨h.1, h.2.symm⟩)⟩
/-- joined already -/
theorem Mk.same {V : List Str} {E : List Pt} {g : Str → Str} {p : Pt} (m : Mk V E g) (h1 : p.1 ∈ V) (h2 : p.2 ∈ V) (h : g p.1 = g p.2) : ∀ x y, Cn (E ++ [p]) x y ↔ Cn E x y := by
  intro x y
  have c := (m _ h1 _ h2).mp h
  rw [cn_snoc]
  constructor
  · rintro (e | ⟨e, k⟩ | ⟨e, k⟩)
    · exact e
    · exact e.trans (c.trans k)
    · exact e.trans (c.symm.trans k)
  · exact .inl
/-! nodup lists within others -/
theorem nodup_len {α : Type} [DecidableEq α] : ∀ (xs ys : List α), xs.Nodup → (∀ x ∈ xs, x ∈ ys) → xs.length ≤ ys.length
  | [], _, _, _ => Nat.zero_le _
  | x :: xs, ys, h, k => by
    obtain ⟨h1, h2⟩ := List.nodup_cons.mp h
    have hx := k x (List.mem_cons_self ..)
    have := nodup_len xs (ys.erase x) h2 fun z hz => (List.mem_erase_of_ne (a := z) (b := x) fun e => h1 (by rw [← e]; exact hz)).mpr (k z (List.mem_cons_of_mem _ hz))
    rw [List.length_erase_of_mem hx] at this
    have := List.length_pos_of_mem hx
    rw [List.length_cons]
    omega
/-! walking from one -/
def closedB (E : List Pt) (s : List Str) : Prop := ∀ e ∈ E, (e.1 ∈ s ↔ e.2 ∈ s)
theorem closed_cn {E : List Pt} {s : List Str} (h : closedB E s) {x y : Str} (c : Cn E x y) (hx : x ∈ s) : y ∈ s := by
  induction c with
  | rf => exact hx
  | st _ e ih => exact e.elim (fun e => (h _ e).mp ih) fun e => (h _ e).mpr ih
def addS (s : List Str) (e : Pt) : List Str := if e.1 ∈ s ∧ ¬ e.2 ∈ s then s ++ [e.2] else s
theorem addS_pre (s : List Str) (e : Pt) : ∃ r, addS s e = s ++ r := by
  unfold addS
  split
  · exact ⟨_, rfl⟩
  · exact ⟨[], (List.append_nil _).symm⟩
def addE (s : List Str) (e : Pt) : List Str := addS (addS s e) (e.2, e.1)
theorem addE_same {s : List Str} {e : Pt} (h : e.1 ∈ s ↔ e.2 ∈ s) : addE s e = s := by
  have h1 : addS s e = s := if_neg fun c => c.2 (h.mp c.1)
  unfold addE
  rw [h1]
  exact if_neg fun c => c.2 (h.mpr c.1)
theorem addE_has {s : List Str} {e : Pt} (h : e.1 ∈ s ∨ e.2 ∈ s) : e.1 ∈ addE s e ∧ e.2 ∈ addE s e := by
  unfold addE addS
  by_cases a : e.1 ∈ s <;> by_cases b : e.2 ∈ s
  · simp [a, b]
  · simp [a, b]
  · simp [a, b]
  · exact absurd (h.elim a b) (fun z => z)
structure Lot (T : List Str) (E : List Pt) (x : Str) (s : List Str) : Prop where
  nd : s.Nodup
  sub : ∀ y ∈ s, y ∈ T
  cn : ∀ y ∈ s, Cn E x y
  has : x ∈ s
theorem Lot.add {T : List Str} {E : List Pt} {x : Str} {s : List Str} {e : Pt} (h : Lot T E x s) (he : e ∈ E ∨ (e.2, e.1) ∈ E) (hT : e.2 ∈ T) : Lot T E x (addS s e) := by
  unfold addS
  split
  · rename_i c
    refine ⟨?_, fun y hy => ?_, fun y hy => ?_, List.mem_append_left _ h.has⟩
    · rw [List.nodup_append]
      exact ⟨h.nd, List.nodup_cons.mpr ⟨by simp, List.nodup_nil⟩, fun a ha b hb => by
        rw [List.mem_singleton] at hb
        subst hb
        exact fun z => c.2 (z ▸ ha)⟩
    · rcases List.mem_append.mp hy with hy | hy
      · exact h.sub y hy
      · rw [List.mem_singleton] at hy; exact hy ▸ hT
    · rcases List.mem_append.mp hy with hy | hy
      · exact h.cn y hy
      · rw [List.mem_singleton] at hy
        rw [hy]
        exact .st (h.cn _ c.1) he
  · exact h
theorem Lot.add2 {T : List Str} {E : List Pt} {x : Str} {s : List Str} {e : Pt} (h : Lot T E x s) (he : e ∈ E) (h1 : e.1 ∈ T) (h2 : e.2 ∈ T) : Lot T E x (addE s e) := (h.add (.inl he) h2).add (.inr he) h1
end Sm

set_option maxHeartbeats 4000000
namespace Sm
open PySem PySem.Spec PyProof.Rows L2 Lf

/-! # shaped, sortable -/
abbrev NmOk (x : Str) : Prop := PyData.strOk x = true
def Sh (n : Nat) (d : PyData) : Prop := d.canLay0 = true ∧ d.depth ≤ n
section
variable {α β γ : Type} {e : α → PyData} {f : β → PyData} {g : γ → PyData} {n : Nat} {k : Bool}
theorem Sh.shp {d : PyData} (h : Sh n d) (hn : n ≤ 64) : shp d = true := by
  show (d.canLay0 && decide (d.depth ≤ 64)) = true
  rw [h.1, decide_eq_true (Nat.le_trans h.2 hn)]
  rfl
theorem Sh.i {i : Int} : Sh n (.int i) := ⟨rfl, Nat.zero_le _⟩
theorem Sh.b {i : Bool} : Sh n (.bool i) := ⟨rfl, Nat.zero_le _⟩
theorem Sh.s {s : Str} (h : NmOk s) : Sh n (.str s) := ⟨h, Nat.zero_le _⟩
theorem Sh.mk {ds : List PyData} (h : ∀ d ∈ ds, Sh n d) : Sh (n + 1) (mkSeq k ds) := by
  have h1 : PyData.canLayAll0 ds = true ∧ PyData.depthAll ds ≤ n := by
    induction ds with
    | nil => exact ⟨by simp [PyData.canLayAll0], by simp [PyData.depthAll]⟩
    | cons d ds ih =>
      obtain ⟨a, b⟩ := h d (List.mem_cons_self ..)
      obtain ⟨a', b'⟩ := ih fun z hz => h z (List.mem_cons_of_mem _ hz)
      exact ⟨by rw [PyData.canLayAll0, a, a']; rfl, by rw [PyData.depthAll]; omega⟩
  cases k
  · exact ⟨by show (PyData.list ds).canLay0 = true; rw [PyData.canLay0]; exact h1.1, by show (PyData.list ds).depth ≤ _; rw [PyData.depth]; omega⟩
  · exact ⟨by show (PyData.tuple ds).canLay0 = true; rw [PyData.canLay0]; exact h1.1, by show (PyData.tuple ds).depth ≤ _; rw [PyData.depth]; omega⟩
theorem Sh.sq {xs : List α} (h : ∀ x ∈ xs, Sh n (e x)) : Sh (n + 1) (eSq k e xs) := Sh.mk fun d hd => by
  obtain ⟨x, hx, rfl⟩ := List.mem_map.mp hd
  exact h x hx
theorem Sh.p2 {p : α × β} (h : Sh n (e p.1)) (h2 : Sh n (f p.2)) : Sh (n + 1) (eP2 k e f p) := Sh.mk fun d hd => by
  rcases List.mem_cons.mp hd with rfl | hd
  · exact h
  · rw [List.mem_singleton] at hd; exact hd ▸ h2
theorem Sh.p3 {p : α × β × γ} (h : Sh n (e p.1)) (h2 : Sh n (f p.2.1)) (h3 : Sh n (g p.2.2)) : Sh (n + 1) (eP3 k e f g p) := Sh.mk fun d hd => by
  rcases List.mem_cons.mp hd with rfl | hd
  · exact h
  · rcases List.mem_cons.mp hd with rfl | hd
    · exact h2
    · rw [List.mem_singleton] at hd; exact hd ▸ h3
theorem sortable_of {ds : List PyData} (h : ∀ d ∈ ds, ordD d = true ∧ d.depth ≤ 40 ∧ isTupNe d = true) (k : ∀ d ∈ ds, ∀ e ∈ ds, PySem.W.alike d e = true) : sortable ds = true := by
  unfold sortable
  simp only [Bool.and_eq_true, List.all_eq_true, decide_eq_true_eq, Bool.or_eq_true]
  exact ⟨⟨fun d hd => ⟨(h d hd).1, (h d hd).2.1⟩, fun d hd e he => k d hd e he⟩, .inl fun d hd => (h d hd).2.2⟩
abbrev ePt : Pt → PyData := eP2 true PyData.str PyData.str
abbrev eIP : Int × Pt → PyData := eP2 true PyData.int ePt
theorem sortable_pt (xs : List Pt) : sortable (xs.map ePt) = true := sortable_of (fun d hd => by
  obtain ⟨x, _, rfl⟩ := List.mem_map.mp hd
  exact ⟨rfl, by show (PyData.tuple [.str x.1, .str x.2]).depth ≤ 40; simp [PyData.depth, PyData.depthAll], rfl⟩) fun d hd e he => by
  obtain ⟨x, _, rfl⟩ := List.mem_map.mp hd
  obtain ⟨y, _, rfl⟩ := List.mem_map.mp he
  show PySem.W.alike (.tuple [.str x.1, .str x.2]) (.tuple [.str y.1, .str y.2]) = true
  simp [PySem.W.alike, PySem.W.alikeAll]
theorem sortable_ip (xs : List (Int × Pt)) : sortable (xs.map eIP) = true := sortable_of (fun d hd => by
  obtain ⟨x, _, rfl⟩ := List.mem_map.mp hd
  exact ⟨rfl, by show (PyData.tuple [.int x.1, .tuple [.str x.2.1, .str x.2.2]]).depth ≤ 40; simp [PyData.depth, PyData.depthAll], rfl⟩) fun d hd e he => by
  obtain ⟨x, _, rfl⟩ := List.mem_map.mp hd
  obtain ⟨y, _, rfl⟩ := List.mem_map.mp he
  show PySem.W.alike (.tuple [.int x.1, .tuple [.str x.2.1, .str x.2.2]]) (.tuple [.int y.1, .tuple [.str y.2.1, .str y.2.2]]) = true
  simp [PySem.W.alike, PySem.W.alikeAll]
theorem lt_ip {x y : Int × Pt} (h : x.1 < y.1) : PySem.W.dataLt (eIP x) (eIP y) = true := by
  show PySem.W.dataLt (.tuple [.int x.1, _]) (.tuple [.int y.1, _]) = true
  rw [PySem.W.dataLt_tuple]
  simp only [PySem.W.toks_all_cons, PySem.W.keyToks, List.cons_append, List.nil_append]
  rw [lex_self (O := itemOrd), lex_diff (O := itemOrd) (show (Sum.inl x.1 : Int ⊕ List Nat) ≠ Sum.inl y.1 from fun z => by have := Sum.inl.inj z; omega)]
  exact decide_eq_true h
theorem sort_ip (xs : List (Int × Pt)) : (sortE true eIP xs).Pairwise fun a b => b.1 ≤ a.1 := (sortE_up (rev := true) (e := eIP) xs).imp fun {a b} h => by
  apply Decidable.byContradiction
  intro hn
  have := lt_ip (x := a) (y := b) (by omega)
  have h : PySem.W.dataLt (eIP a) (eIP b) = false := h
  rw [this] at h
  cases h
end

/-! # frozen, the law's lists -/
def frzB (f_ : Fn) : Sx := (sSeq (sIf (eTest (e1 (lift1 (isi2F .list .tuple)) (eV 0))) (sRet (eArgs (liftA fTuple) (asCons (eComp (.n 1) (iAnyS (eV 0)) yesT (eArgs (callF 1 f_) (asCons (eV 1) asNil)) [1]) asNil))) sNil)
    (sRet (eV 0)))
def frzF : Nat → Fn
  | 0 => fNo
  | k + 1 => runF 2 (frzB (frzF k))
def lisB (f_ : Fn) : Sx := (sRet (eIf (eTest (e1 (lift1 (isi2F .list .tuple)) (eV 0))) (eComp (.n 1) (iAnyS (eV 0)) yesT (eArgs (callF 1 f_) (asCons (eV 1) asNil)) [1]) (eV 0)))
def lisF : Nat → Fn
  | 0 => fNo
  | k + 1 => runF 2 (lisB (lisF k))
/-- f brings d to d' -/
def Bt (f : Fn) (d d' : PyData) : Prop := ∀ S, f [.d d] S = .ok (.d d') S
section
variable {α β γ : Type} {e e' : α → PyData} {f f' : β → PyData} {g g' : γ → PyData} {n : Nat} {k : Bool} {F : Fn}
theorem bt_cL {v : Vl} : ∀ (es : List (PyData × PyData)) (S : Sto), (∀ p : PyData × PyData, p ∈ es → Bt F p.1 p.2) → cL (.n 1) yesT (eArgs (callF 1 F) (asCons (eV 1) asNil)) [1] [some v, none] (es.map fun p : PyData × PyData => p.1) S = .ok (es.map fun p : PyData × PyData => p.2) S
  | [], S, _ => rfl
  | p :: es, S, h => by
    have h1 := h p (List.mem_cons_self ..) S
    have ih := bt_cL (v := v) es S fun q hq => h q (List.mem_cons_of_mem _ hq)
    rw [List.map_cons, List.map_cons]
    unfold cL
    show (match eArgs (callF 1 F) (asCons (eV 1) asNil) [some v, some (.d p.1)] S with
      | .ok (.d x) S2 => consD (cL _ _ _ _ _ (es.map fun p : PyData × PyData => p.1) S2) x
      | _ => .no) = _
    rw [show eArgs (callF 1 F) (asCons (eV 1) asNil) [some v, some (.d p.1)] S = .ok (.d p.2) S from ev_c1 rfl rfl h1]
    show consD (cL _ _ _ _ _ (es.map fun p => p.1) S) p.2 = _
    rw [ih]
    rfl
theorem bt_comp {ds : List (PyData × PyData)} (hl : ds.length ≤ big) (h : ∀ p : PyData × PyData, p ∈ ds → Bt F p.1 p.2) (S : Sto) : eComp (.n 1) (iAnyS (eV 0)) yesT (eArgs (callF 1 F) (asCons (eV 1) asNil)) [1] [some (.d (mkSeq k (ds.map fun p => p.1))), none] S = .ok (.d (.list (ds.map fun p => p.2))) S := by
  have hc := bt_cL (v := .d (mkSeq k (ds.map fun p => p.1))) ds S h
  have hi : iAnyS (eV 0) [some (.d (mkSeq k (ds.map fun p => p.1))), none] S = .ok (ds.map fun p => p.1) S := by cases k <;> rfl
  unfold eComp
  rw [hi]
  show lim (cL (.n 1) yesT (eArgs (callF 1 F) (asCons (eV 1) asNil)) [1] [some (.d (mkSeq k (ds.map fun p => p.1))), none] (ds.map fun p => p.1) S) = _
  rw [hc]
  show (if (ds.map fun p => p.2).length ≤ big then _ else _) = _
  rw [List.length_map, if_pos hl]
theorem bt_frz {ds : List (PyData × PyData)} (hl : ds.length ≤ big) (h : ∀ p : PyData × PyData, p ∈ ds → Bt (frzF n) p.1 p.2) : Bt (frzF (n + 1)) (mkSeq k (ds.map fun p => p.1)) (.tuple (ds.map fun p => p.2)) := fun S => by
  have h2 : isi2F .list .tuple (mkSeq k (ds.map fun p => p.1)) = some (.bool true) := by cases k <;> rfl
  refine fn_rts (x := .d (.tuple (ds.map fun p => p.2))) rfl rfl (.stop (.ifT (ev_test (ev_1 rfl h2)) (.ret ?_))) rfl
  exact ev_A1 (bt_comp hl h S) rfl
theorem bt_lis {ds : List (PyData × PyData)} (hl : ds.length ≤ big) (h : ∀ p : PyData × PyData, p ∈ ds → Bt (lisF n) p.1 p.2) : Bt (lisF (n + 1)) (mkSeq k (ds.map fun p => p.1)) (.list (ds.map fun p => p.2)) := fun S => by
  have h2 : isi2F .list .tuple (mkSeq k (ds.map fun p => p.1)) = some (.bool true) := by cases k <;> rfl
  refine fn_rts (x := .d (.list (ds.map fun p => p.2))) rfl rfl (.ret ?_) rfl
  show R.bind (eTest (e1 (lift1 (isi2F .list .tuple)) (eV 0)) [some (Vl.d (mkSeq k (ds.map fun p => p.1))), none] S) (fun x S1 => match x with
    | true => eComp (.n 1) (iAnyS (eV 0)) yesT (eArgs (callF 1 (lisF n)) (asCons (eV 1) asNil)) [1] [some (Vl.d (mkSeq k (ds.map fun p => p.1))), none] S1
    | false => eV 0 [some (Vl.d (mkSeq k (ds.map fun p => p.1))), none] S1) = _
  rw [show eTest (e1 (lift1 (isi2F .list .tuple)) (eV 0)) [some (Vl.d (mkSeq k (ds.map fun p => p.1))), none] S = .ok true S from ev_test (ev_1 rfl h2)]
  exact bt_comp hl h S
theorem frz_i (i : Int) : Bt (frzF (n + 1)) (.int i) (.int i) := fun S => fn_rts (x := .d (.int i)) rfl rfl (.nx (.ifF (ev_test (ev_1 rfl rfl)) .nil) (.ret rfl)) rfl
theorem frz_s (s : Str) : Bt (frzF (n + 1)) (.str s) (.str s) := fun S => fn_rts (x := .d (.str s)) rfl rfl (.nx (.ifF (ev_test (ev_1 rfl rfl)) .nil) (.ret rfl)) rfl
theorem lis_i (i : Int) : Bt (lisF (n + 1)) (.int i) (.int i) := fun S => fn_rts (x := .d (.int i)) rfl rfl (.ret rfl) rfl
theorem lis_s (s : Str) : Bt (lisF (n + 1)) (.str s) (.str s) := fun S => fn_rts (x := .d (.str s)) rfl rfl (.ret rfl) rfl
theorem frz_sq {xs : List α} (hl : xs.length ≤ big) (h : ∀ x ∈ xs, Bt (frzF n) (e x) (e' x)) : Bt (frzF (n + 1)) (eSq k e xs) (eSq true e' xs) := by
  have := bt_frz (k := k) (n := n) (ds := xs.map fun x => (e x, e' x)) (by rw [List.length_map]; exact hl) fun p hp => by
    obtain ⟨x, hx, rfl⟩ := List.mem_map.mp hp
    exact h x hx
  rw [List.map_map, List.map_map] at this
  exact this
theorem lis_sq {xs : List α} (hl : xs.length ≤ big) (h : ∀ x ∈ xs, Bt (lisF n) (e x) (e' x)) : Bt (lisF (n + 1)) (eSq k e xs) (eSq false e' xs) := by
  have := bt_lis (k := k) (n := n) (ds := xs.map fun x => (e x, e' x)) (by rw [List.length_map]; exact hl) fun p hp => by
    obtain ⟨x, hx, rfl⟩ := List.mem_map.mp hp
    exact h x hx
  rw [List.map_map, List.map_map] at this
  exact this
theorem frz_p2 {p : α × β} (h : Bt (frzF n) (e p.1) (e' p.1)) (h2 : Bt (frzF n) (f p.2) (f' p.2)) : Bt (frzF (n + 1)) (eP2 k e f p) (eP2 true e' f' p) := bt_frz (k := k) (ds := [(e p.1, e' p.1), (f p.2, f' p.2)]) (show (_ : Nat) ≤ big by show _ ≤ 1000000; simp only [List.length_cons, List.length_nil]; omega) fun q hq => by
  rcases List.mem_cons.mp hq with rfl | hq
  · exact h
  · rw [List.mem_singleton] at hq; subst hq; exact h2
theorem lis_p2 {p : α × β} (h : Bt (lisF n) (e p.1) (e' p.1)) (h2 : Bt (lisF n) (f p.2) (f' p.2)) : Bt (lisF (n + 1)) (eP2 k e f p) (eP2 false e' f' p) := bt_lis (k := k) (ds := [(e p.1, e' p.1), (f p.2, f' p.2)]) (show (_ : Nat) ≤ big by show _ ≤ 1000000; simp only [List.length_cons, List.length_nil]; omega) fun q hq => by
  rcases List.mem_cons.mp hq with rfl | hq
  · exact h
  · rw [List.mem_singleton] at hq; subst hq; exact h2
theorem frz_p3 {p : α × β × γ} (h : Bt (frzF n) (e p.1) (e' p.1)) (h2 : Bt (frzF n) (f p.2.1) (f' p.2.1)) (h3 : Bt (frzF n) (g p.2.2) (g' p.2.2)) : Bt (frzF (n + 1)) (eP3 k e f g p) (eP3 true e' f' g' p) := bt_frz (k := k) (ds := [(e p.1, e' p.1), (f p.2.1, f' p.2.1), (g p.2.2, g' p.2.2)]) (show (_ : Nat) ≤ big by show _ ≤ 1000000; simp only [List.length_cons, List.length_nil]; omega) fun q hq => by
  rcases List.mem_cons.mp hq with rfl | hq
  · exact h
  · rcases List.mem_cons.mp hq with rfl | hq
    · exact h2
    · rw [List.mem_singleton] at hq; subst hq; exact h3
end
end Sm

set_option maxHeartbeats 400000
namespace Sm
open PySem PySem.Spec PyProof.Rows L2 Lf

theorem ne_B (i : Bool) : neF (.bool i) (.bool i) = some (.bool false) := by simp [neF, eqP]
theorem cL_of {β : Type} {pt : Tg} {tt : Env → M Bool} {elt : Ex} {vs : List Nat} {ρ : Env} {S : Sto} (enc : β → PyData) (t : β → Bool) (g : β → PyData) : ∀ (xs : List β),
    (∀ x ∈ xs, ∃ ρ1, asg pt (enc x) (wipeE ρ vs) = some ρ1 ∧ tt ρ1 S = .ok (t x) S ∧ (t x = true → elt ρ1 S = .ok (.d (g x)) S)) → cL pt tt elt vs ρ (xs.map enc) S = .ok ((xs.filter t).map g) S
  | [], _ => rfl
  | x :: xs, h => by
    obtain ⟨ρ1, h1, h2, h3⟩ := h x List.mem_cons_self
    have ih := cL_of enc t g xs fun y hy => h y (List.mem_cons_of_mem _ hy)
    rw [List.map_cons]
    unfold cL
    rw [h1]
    dsimp only
    rw [h2]
    cases ht : t x with
    | true =>
      rw [List.filter_cons, if_pos ht]
      dsimp only
      rw [h3 ht]
      dsimp only
      rw [ih]
      rfl
    | false =>
      rw [List.filter_cons, if_neg (by rw [ht]; exact Bool.false_ne_true)]
      exact ih
theorem eComp_of {β : Type} {pt : Tg} {fi : Ix} {tt : Env → M Bool} {elt : Ex} {vs : List Nat} {ρ : Env} {S : Sto} (enc : β → PyData) (t : β → Bool) (g : β → PyData) (xs : List β) (hi : fi ρ S = .ok (xs.map enc) S) (hl : xs.length ≤ big)
    (h : ∀ x ∈ xs, ∃ ρ1, asg pt (enc x) (wipeE ρ vs) = some ρ1 ∧ tt ρ1 S = .ok (t x) S ∧ (t x = true → elt ρ1 S = .ok (.d (g x)) S)) : eComp pt fi tt elt vs ρ S = .ok (.d (.list ((xs.filter t).map g))) S := by
  unfold eComp
  rw [hi]
  show lim (cL pt tt elt vs ρ (xs.map enc) S) = _
  rw [cL_of enc t g xs h]
  unfold lim
  dsimp only
  rw [if_pos (by rw [List.length_map]; exact Nat.le_trans (List.length_filter_le _ _) hl)]
theorem filter_yes {β : Type} (xs : List β) : xs.filter (fun _ => true) = xs := List.filter_eq_self.mpr fun _ _ => rfl

/-! ## the law's same, of data and itself -/
def sameB (f_ : Fn) : Sx := (sSeq (sIf (eTest (e1 (lift1 (isi2F .list .tuple)) (eV 1))) (sSeq (sIf (eOrT (eTest (e2 (lift2 neF) (e1 (lift1 (isiF .list)) (eV 0)) (e1 (lift1 (isiF .list)) (eV 1)))) (eTest (e2 (lift2 neF) (e1 (lift1 (isiF .tuple)) (eV 0)) (e1 (lift1 (isiF .tuple)) (eV 1))))) (sRet (eK (.bool false))) sNil)
    (sRet (eAnd (e2 (lift2 eqF) (eArgs (liftA fLen) (asCons (eV 0) asNil)) (eArgs (liftA fLen) (asCons (eV 1) asNil))) (eArgs (liftA fAll) (asCons (eComp (.t [(.n 2), (.n 3)]) (iArgs zip2 (asCons (eV 0) (asCons (eV 1) asNil))) yesT (eArgs (callF 2 f_) (asCons (eV 2) (asCons (eV 3) asNil))) [2, 3]) asNil))))) sNil)
    (sSeq (sIf (eOrT (eTest (e2 (lift2 isF) (eV 1) (eK .none))) (eTest (e1 (lift1 (isi2F .bool .str)) (eV 1)))) (sRet (eAnd (e2 (lift2 eqF) (eV 0) (eV 1)) (eAnd (e2 (lift2 eqF) (e1 (lift1 (isiF .bool)) (eV 0)) (e1 (lift1 (isiF .bool)) (eV 1))) (e2 (lift2 eqF) (e2 (lift2 isF) (eV 0) (eK .none)) (e2 (lift2 isF) (eV 1) (eK .none)))))) sNil)
    (sRet (eAnd (e1 (lift1 (isiF .int)) (eV 0)) (eAnd (eNot (e1 (lift1 (isiF .bool)) (eV 0))) (e2 (lift2 eqF) (eV 0) (eV 1)))))))
def sameF : Nat → Fn
  | 0 => fNo
  | k + 1 => runF 4 (sameB (sameF k))
def simple : Nat → PyData → Bool
  | _, .none => true
  | _, .bool _ => true
  | _, .int _ => true
  | k + 1, .list ds => decide (ds.length ≤ 1000) && ds.all (simple k)
  | k + 1, .tuple ds => decide (ds.length ≤ 1000) && ds.all (simple k)
  | _, _ => false
theorem ev_andY {a b : Ex} {ρ : Env} {S : Sto} {x : Vl} (h : a ρ S = .ok (.d (.bool true)) S) (k : b ρ S = .ok x S) : eAnd a b ρ S = .ok x S := by
  unfold eAnd
  rw [h]
  exact k
theorem eq_B (i : Bool) : eqF (.bool i) (.bool i) = some (.bool true) := by simp [eqF, eqP]
theorem eq_II (i : Int) : eqF (.int i) (.int i) = some (.bool true) := by simp [eqF, eqP]
theorem fAll_yes (n : Nat) : fAll [.list ((List.replicate n PyData.none).map fun _ => PyData.bool true)] = some (.bool true) := by
  have h : ∀ n : Nat, asBools ((List.replicate n PyData.none).map fun _ => PyData.bool true) = some (List.replicate n true) := fun n => by
    induction n with
    | zero => rfl
    | succ n ih =>
      rw [List.replicate_succ, List.map_cons]
      unfold asBools
      rw [ih]
      rfl
  unfold fAll
  dsimp only
  rw [h]
  simp
theorem zip_self (ds : List PyData) : zipD ds ds = ds.map fun d => .tuple [d, d] := by
  unfold zipD
  induction ds with
  | nil => rfl
  | cons d ds ih => rw [List.zipWith_cons_cons, ih, List.map_cons]
theorem same_seq {f : Fn} {S : Sto} {ds : List PyData} (d : PyData) (hd : d = .list ds ∨ d = .tuple ds) (hl : ds.length ≤ 1000) (ih : ∀ x ∈ ds, f [.d x, .d x] S = .ok (.d (.bool true)) S) : runF 4 (sameB f) [.d d, .d d] S = .ok (.d (.bool true)) S := by
  have hc : eComp (.t [(.n 2), (.n 3)]) (iArgs zip2 (asCons (eV 0) (asCons (eV 1) asNil))) yesT (eArgs (callF 2 f) (asCons (eV 2) (asCons (eV 3) asNil))) [2, 3] [some (.d d), some (.d d), none, none] S = .ok (.d (.list (ds.map fun _ => PyData.bool true))) S := by
    have e := eComp_of (pt := .t [(.n 2), (.n 3)]) (fi := iArgs zip2 (asCons (eV 0) (asCons (eV 1) asNil))) (tt := yesT) (elt := eArgs (callF 2 f) (asCons (eV 2) (asCons (eV 3) asNil))) (vs := [2, 3]) (ρ := [some (.d d), some (.d d), none, none]) (S := S)
      (fun x => PyData.tuple [x, x]) (fun _ => true) (fun _ => PyData.bool true) ds (by rw [← zip_self]; rcases hd with rfl | rfl <;> rfl) (Nat.le_trans hl (by decide)) (fun x hx => ⟨_, rfl, rfl, fun _ => ev_c2 rfl rfl rfl rfl (ih x hx)⟩)
    rw [filter_yes] at e
    exact e
  have ha : fAll [.list (ds.map fun _ => PyData.bool true)] = some (.bool true) := by
    have := fAll_yes ds.length
    rw [show (List.replicate ds.length PyData.none).map (fun _ => PyData.bool true) = ds.map fun _ => PyData.bool true by
      rw [List.map_const', List.map_const', List.length_replicate]] at this
    exact this
  have hl1 : fLen [d] = some (.int ds.length) := by rcases hd with rfl | rfl <;> rfl
  have h2 : isi2F .list .tuple d = some (.bool true) := by rcases hd with rfl | rfl <;> rfl
  obtain ⟨b1, h3⟩ : ∃ b, isiF .list d = some (.bool b) := by rcases hd with rfl | rfl <;> exact ⟨_, rfl⟩
  obtain ⟨b2, h4⟩ : ∃ b, isiF .tuple d = some (.bool b) := by rcases hd with rfl | rfl <;> exact ⟨_, rfl⟩
  refine fn_rts (x := .d (.bool true)) rfl rfl (.stop (.ifT (ev_test (ev_1 rfl h2)) (.nx (.ifF (ev_orF (ev_test (ev_2 (ev_1 rfl h3) (ev_1 rfl h3) (ne_B _))) (ev_test (ev_2 (ev_1 rfl h4) (ev_1 rfl h4) (ne_B _)))) .nil) (.ret ?_)))) rfl
  exact ev_andY (ev_2 (ev_A1 rfl hl1) (ev_A1 rfl hl1) (eq_II _)) (ev_A1 hc ha)
theorem same_ok (S : Sto) : ∀ (k : Nat) (d : PyData), simple k d = true → sameF (k + 1) [.d d, .d d] S = .ok (.d (.bool true)) S
  | _, .none, _ => rfl
  | _, .bool b, _ => by cases b <;> rfl
  | _, .int i, _ => fn_rts (x := .d (.bool true)) rfl rfl (.nx (.ifF (ev_test (ev_1 rfl rfl)) .nil) (.nx (.ifF (ev_orF (ev_test (ev_2 rfl rfl rfl)) (ev_test (ev_1 rfl rfl))) .nil) (.ret (ev_andY (ev_1 rfl rfl) (ev_andY rfl (ev_2 rfl rfl (eq_II i))))))) rfl
  | k + 1, .list ds, h => by
    have h' : (decide (ds.length ≤ 1000) && ds.all (simple k)) = true := h
    rw [Bool.and_eq_true] at h'
    exact same_seq _ (.inl rfl) (of_decide_eq_true h'.1) fun x hx => same_ok S k x (List.all_eq_true.mp h'.2 x hx)
  | k + 1, .tuple ds, h => by
    have h' : (decide (ds.length ≤ 1000) && ds.all (simple k)) = true := h
    rw [Bool.and_eq_true] at h'
    exact same_seq _ (.inr rfl) (of_decide_eq_true h'.1) fun x hx => same_ok S k x (List.all_eq_true.mp h'.2 x hx)
  | 0, .list _, h => by cases h
  | 0, .tuple _, h => by cases h
  | 0, .str _, h => by cases h
  | _ + 1, .str _, h => by cases h
  | 0, .dict _, h => by cases h
  | _ + 1, .dict _, h => by cases h
end Sm

set_option maxHeartbeats 4000000
namespace Sm
open PySem PySem.Spec PyProof.Rows L2 Lf

theorem take_eq : f__law_take = takeF := rfl
theorem frz_eq : ∀ k, f_frozen k = frzF k
  | 0 => rfl
  | k + 1 => by
    show runF 2 (b_frozen (f_frozen k)) = runF 2 (frzB (frzF k))
    rw [frz_eq k]; rfl
theorem lis_eq : ∀ k, f__law_lists k = lisF k
  | 0 => rfl
  | k + 1 => by
    show runF 2 (b__law_lists (f__law_lists k)) = runF 2 (lisB (lisF k))
    rw [lis_eq k]; rfl
theorem same_eq : ∀ k, f__law_same k = sameF k
  | 0 => rfl
  | k + 1 => by
    show runF 4 (b__law_same (f__law_same k)) = runF 4 (sameB (sameF k))
    rw [same_eq k]; rfl
/-- numbers of things here -/
theorem le_big {n : Nat} (h : n ≤ 900) : n ≤ big := Nat.le_trans h (by decide)
theorem pu_lim {α : Type} {xs : List α} (h : xs.length ≤ big) {P : List α → Prop} (hp : P xs) : Pu (limT xs) P := Pu.okT (decide_eq_true h) hp
/-! ## marks -/
theorem pu_marks {V : List Str} (h : V.length ≤ 900) : Pu (t_marks_alone V) (fun m => Rep m V id) := by
  unfold t_marks_alone
  rw [pure_bind, dcM_pure (fun _ => true) (fun a => a) (fun a => a), pure_bind]
  have hd : dcP (fun _ => true) (fun a : Str => a) (fun a => a) V [] = dcP (fun _ => true) id id V [] := rfl
  rw [hd]
  refine Pu.okT (decide_eq_true (by show V.length ≤ 1000000; omega)) ⟨fun x hx => ?_, fun x hx => ?_, ?_⟩
  · rw [dcP_get, if_pos hx]
  · rw [dcP_get, if_neg hx]; rfl
  · have := dcP_len id V ([] : List (Str × Str))
    simpa using this
theorem pu_joins {m : List (Str × Str)} {V : List Str} {g : Str → Str} {p : Pt} (r : Rep m V g) (h1 : p.1 ∈ V) (h2 : p.2 ∈ V) : Pu (t_joins m p) (· = decide (g p.1 = g p.2)) := by
  unfold t_joins
  rw [r.ok _ h1, r.ok _ h2, someT_some, someT_some, pure_bind, pure_bind]
  exact Pu.pure rfl
theorem sortT_two (a b : Str) : sortT [a, b] = [a, b] ∨ sortT [a, b] = [b, a] := by
  have e : sortT [a, b] = if ltB b a = true then [b, a] else [a, b] := rfl
  rw [e]
  split
  · exact .inr rfl
  · exact .inl rfl
theorem pu_merged {m : List (Str × Str)} {V : List Str} {g : Str → Str} {p : Pt} (r : Rep m V g) (hl : V.length ≤ 900) (h1 : p.1 ∈ V) (h2 : p.2 ∈ V) : Pu (t_merged m p) (fun m' => ∃ lo hi, ((lo = g p.1 ∧ hi = g p.2) ∨ (lo = g p.2 ∧ hi = g p.1)) ∧ Rep m' V (fun x => if g x = hi then lo else g x)) := by
  unfold t_merged
  rw [r.ok _ h1, r.ok _ h2, someT_some, someT_some, pure_bind, pure_bind, pure_bind]
  have key : ∀ lo hi : Str, Pu (okT (!m.isEmpty) (m.map (·.1)) >>= fun xs_ => dcM (fun (a5 : Str) => pure true) (fun (a5 : Str) => (pure a5 : TM Str)) (fun (a5 : Str) => (((someT (getL m a5)) >>= fun x6 => (pure (decide (x6 = hi)))) >>= fun x7 => if x7 then (pure lo : TM Str) else (someT (getL m a5)))) xs_ [] >>= fun m_ => okT (decide (xs_.length ≤ big)) m_) (fun m' => Rep m' V (fun x => if g x = hi then lo else g x)) := by
    intro lo hi
    have hne : (!m.isEmpty) = true := by
      cases m with
      | nil => have := r.ok _ h1; cases this
      | cons _ _ => rfl
    rw [hne, okT_true, pure_bind]
    rw [dcM_congr (tt' := fun _ => pure true) (tk' := fun x => pure x) (tv' := fun x => pure (if g x = hi then lo else g x)) (m.map (·.1)) [] fun x hx => ⟨rfl, rfl, by
      rw [r.ok x ((r.keys x).mp hx), someT_some, pure_bind, pure_bind]
      by_cases c : g x = hi <;> simp [c]⟩, dcM_pure (fun _ => true) (fun a => a) (fun x => if g x = hi then lo else g x), pure_bind]
    have hd : dcP (fun _ => true) (fun a : Str => a) (fun x => if g x = hi then lo else g x) (m.map (·.1)) [] = dcP (fun _ => true) id (fun x => if g x = hi then lo else g x) (m.map (·.1)) [] := rfl
    rw [hd]
    have hlen := r.len
    refine Pu.okT (decide_eq_true (by rw [List.length_map]; show m.length ≤ 1000000; omega)) ⟨fun x hx => ?_, fun x hx => ?_, ?_⟩
    · rw [dcP_get, if_pos ((r.keys x).mpr hx)]
    · rw [dcP_get, if_neg fun z => hx ((r.keys x).mp z)]; rfl
    · have := dcP_len (fun x => if g x = hi then lo else g x) (m.map (·.1)) ([] : List (Str × Str))
      rw [List.length_map] at this
      have e : ([] : List (Str × Str)).length = 0 := rfl
      omega
  rw [show (decide (([g p.1, g p.2] : List Str).length < 64)) = true from rfl, okT_true, pure_bind]
  rcases sortT_two (g p.1) (g p.2) with e | e
  · rw [e]
    show Pu ((pure (g p.1, g p.2) : TM (Str × Str)) >>= _) _
    rw [pure_bind]
    exact (key _ _).mono fun m' h => ⟨_, _, .inl ⟨rfl, rfl⟩, h⟩
  · rw [e]
    show Pu ((pure (g p.2, g p.1) : TM (Str × Str)) >>= _) _
    rw [pure_bind]
    exact (key _ _).mono fun m' h => ⟨_, _, .inr ⟨rfl, rfl⟩, h⟩
/-! ## the fords from the highest -/
theorem pu_highest {F : Fo} (h : F.length ≤ 900) : Pu (t_from_highest F) (fun H => H.Perm F ∧ H.Pairwise fun a b => b.2 ≤ a.2) := by
  unfold t_from_highest
  rw [pure_bind]
  have l2 : (F.map fun a : Pt × Int => (a.2, a.1)).length ≤ big := by rw [List.length_map]; exact le_big h
  refine Pu.bind (P := fun ys => ys.Perm (F.map fun a : Pt × Int => (a.2, a.1)) ∧ ys.Pairwise fun a b => b.1 ≤ a.1) (Pu.bind (P := fun zs => zs = F.map fun a => (a.2, a.1)) (pu_lim l2 rfl) fun zs e => ?_) fun ys e => ?_
  · subst e
    exact Pu.okT (sortable_ip _) ⟨sortE_perm _, sort_ip _⟩
  · have l3 : ys.length = F.length := by rw [e.1.length_eq, List.length_map]
    refine pu_lim (by rw [List.length_map, l3]; exact le_big h) ⟨?_, ?_⟩
    · have := e.1.map fun a : Int × Pt => (a.2, a.1)
      rw [List.map_map] at this
      exact this.trans (by rw [show ((fun a : Int × Pt => (a.2, a.1)) ∘ fun a : Pt × Int => (a.2, a.1)) = id from rfl, List.map_id])
    · rw [List.pairwise_map]
      exact e.2
/-! ## the last waters -/
structure Inn (F : Fo) (g : Str → Str) (h : Int) (s0 : Fo) (pre : Fo) (s : Fo) : Prop where
  get : ∀ q, getL s q = if getL s0 q = none ∧ q ∈ pre.map (·.1) ∧ g q.1 = g q.2 then some h else getL s0 q
  len : s.length ≤ s0.length + pre.length
/-- what the fords allow -/
structure FoOk (F : Fo) (V : List Str) : Prop where
  ends : ∀ f ∈ F, f.1.1 ∈ V ∧ f.1.2 ∈ V
  ne : ∀ f ∈ F, f.1.1 ≠ f.1.2
  few : F.length ≤ 900
  fewV : V.length ≤ 900
structure KI (F : Fo) (V : List Str) (P : Fo) (s : Fo × List (Str × Str)) : Prop where
  mks : ∃ g, Rep s.2 V g ∧ Mk V (P.map (·.1)) g
  non : ∀ q ∈ F.map (·.1), (getL s.1 q = none ↔ ¬ Cn (P.map (·.1)) q.1 q.2)
  val : ∀ q v, getL s.1 q = some v → (∃ f ∈ F, f.2 = v) ∧ ∀ w, w < v ↔ Cn (above F w) q.1 q.2
  len : s.1.length ≤ P.length * F.length
theorem pu_last {F : Fo} {V : List Str} (ok : FoOk F V) : Pu (t_last_waters V F) (fun L => ∀ q ∈ F.map (·.1), ∃ v, getL L q = some v ∧ (∃ f ∈ F, f.2 = v) ∧ ∀ w, w < v ↔ Cn (above F w) q.1 q.2) := by
  unfold t_last_waters
  refine Pu.bind (pu_marks ok.fewV) fun m0 r0 => Pu.bind (pu_highest ok.few) fun H ⟨hp, hs⟩ => ?_
  refine Pu.bind (Pu.forT (KI F V) ?_ ?_) fun s hs2 => ?_
  · rintro P ⟨p, h⟩ R ⟨s, m⟩ eH ⟨⟨g, rg, mk⟩, non, val, len⟩
    dsimp only at rg non val len
    have memH : ∀ f, f ∈ F ↔ f ∈ P ++ (p, h) :: R := fun f => by rw [← eH]; exact hp.mem_iff.symm
    have hF : (p, h) ∈ F := (memH _).mpr (List.mem_append_right _ (List.mem_cons_self ..))
    obtain ⟨e1, e2⟩ := ok.ends _ hF
    dsimp only at e1 e2
    have lenF : P.length + 1 + R.length = F.length := by
      rw [← hp.length_eq, eH, List.length_append, List.length_cons]; omega
    rw [eH] at hs
    obtain ⟨_, hs2, hs3⟩ := List.pairwise_append.mp hs
    have hP : ∀ f ∈ P, h ≤ f.2 := fun f hf => hs3 f hf _ (List.mem_cons_self ..)
    have hR : ∀ f ∈ R, f.2 ≤ h := fun f hf => (List.pairwise_cons.mp hs2).1 f hf
    have mapP : (P ++ [(p, h)]).map (·.1) = P.map (·.1) ++ [p] := by rw [List.map_append]; rfl
    have lenP : P.length * F.length ≤ (P ++ [(p, h)]).length * F.length := Nat.mul_le_mul_right _ (by rw [List.length_append]; exact Nat.le_add_right _ _)
    dsimp only
    refine Pu.bind (P := fun c => c = !decide (g p.1 = g p.2)) (Pu.bind (pu_joins rg e1 e2) fun x hx => Pu.pure (by rw [hx])) fun c hc => ?_
    by_cases hj : g p.1 = g p.2
    · rw [decide_eq_true hj] at hc
      subst hc
      have sm := mk.same e1 e2 hj
      show Pu ((pure (s, m) : TM _) >>= _) _
      rw [pure_bind]
      exact Pu.pure ⟨⟨g, rg, by rw [mapP]; exact fun x hx y hy => (mk x hx y hy).trans (sm x y).symm⟩, fun q hq => by rw [mapP, sm]; exact non q hq, val, Nat.le_trans len lenP⟩
    · rw [decide_eq_false hj] at hc
      subst hc
      rw [if_pos (show (!false) = true from rfl)]
      refine Pu.bind (Q := KI F V (P ++ [(p, h)])) ?_ fun s' hs' => Pu.pure hs'
      refine Pu.bind (pu_merged rg ok.fewV e1 e2) fun m' ⟨lo, hi, hlh, rg'⟩ => ?_
      generalize hg' : (fun x => if g x = hi then lo else g x) = g' at rg'
      have mk' : Mk V (P.map (·.1) ++ [p]) g' := by rw [← hg']; exact mk.snoc e1 e2 hlh
      rw [pure_bind]
      refine Pu.bind (P := Inn F g' h s F) (Pu.forT (Inn F g' h s) ?_ ?_) fun s1 ⟨hget, hlen⟩ => ?_
      · rintro pre ⟨q, hq⟩ post s1 eF ⟨hget, hlen⟩
        have hqF : (q, hq) ∈ F := by rw [eF]; exact List.mem_append_right _ (List.mem_cons_self ..)
        obtain ⟨q1, q2⟩ := ok.ends _ hqF
        have lpre : pre.length ≤ F.length := by rw [eF, List.length_append]; omega
        have hbig : s1.length ≤ big := by
          have h1 : P.length * F.length ≤ 900 * 900 := Nat.mul_le_mul (by have := ok.few; omega) ok.few
          have h2 := ok.few
          show _ ≤ 1000000
          omega
        dsimp only at q1 q2 ⊢
        have hj := pu_joins rg' q1 q2
        have hpre : (pre ++ [(q, hq)]).map (·.1) = pre.map (·.1) ++ [q] := by rw [List.map_append]; rfl
        refine Pu.bind (P := fun c => c = (!(getL s1 q).isSome && decide (g' q.1 = g' q.2))) ?_ fun c hc => ?_
        · by_cases hn : (getL s1 q).isSome
          · rw [hn]; exact Pu.pure rfl
          · rw [Bool.not_eq_true] at hn
            rw [hn]
            exact hj.mono fun x hx => by rw [hx]; rfl
        subst hc
        have gq := hget q
        by_cases hc : getL s1 q = none ∧ g' q.1 = g' q.2
        · rw [hc.1, decide_eq_true hc.2]
          show Pu ((okT (decide (s1.length ≤ big)) () >>= fun _ => pure (putL s1 q h)) >>= _) _
          rw [decide_eq_true hbig, okT_true, pure_bind, pure_bind]
          have s0n : getL s q = none := by
            rw [hc.1] at gq
            split at gq
            · cases gq
            · exact gq.symm
          refine Pu.pure ⟨fun z => ?_, ?_⟩
          · rw [getL_put, hpre]
            by_cases hz : q = z
            · subst hz
              rw [if_pos rfl, if_pos ⟨s0n, List.mem_append_right _ (List.mem_cons_self ..), hc.2⟩]
            · rw [if_neg hz, hget z]
              have : z ∈ pre.map (·.1) ++ [q] ↔ z ∈ pre.map (·.1) := by
                rw [List.mem_append, List.mem_singleton]
                exact ⟨fun k => k.elim id fun k => absurd k.symm hz, .inl⟩
              simp only [this]
          · have := put_len s1 q h
            rw [List.length_append]
            show _ ≤ s.length + (pre.length + 1)
            omega
        · have hcf : (!(getL s1 q).isSome && decide (g' q.1 = g' q.2)) = false := by
            rw [Bool.and_eq_false_iff]
            by_cases hn : getL s1 q = none
            · exact .inr (decide_eq_false fun z => hc ⟨hn, z⟩)
            · left
              cases hh : getL s1 q with
              | none => exact absurd hh hn
              | some _ => rfl
          rw [hcf]
          show Pu ((pure s1 : TM _) >>= _) _
          rw [pure_bind]
          refine Pu.pure ⟨fun z => ?_, by rw [List.length_append]; omega⟩
          rw [hget z, hpre]
          by_cases hz : q = z
          · subst hz
            rw [hget q] at hc
            by_cases a : getL s q = none ∧ q ∈ pre.map (·.1) ∧ g' q.1 = g' q.2
            · rw [if_pos a, if_pos ⟨a.1, List.mem_append_left _ a.2.1, a.2.2⟩]
            · rw [if_neg a] at hc ⊢
              rw [if_neg]
              rintro ⟨b1, _, b3⟩
              exact hc ⟨b1, b3⟩
          · have : z ∈ pre.map (·.1) ++ [q] ↔ z ∈ pre.map (·.1) := by
              rw [List.mem_append, List.mem_singleton]
              exact ⟨fun k => k.elim id fun k => absurd k.symm hz, .inl⟩
            simp only [this]
      · exact ⟨(fun q => by rw [if_neg]; rintro ⟨_, k, _⟩; cases k), Nat.le_add_right _ _⟩
      · have jg : ∀ q ∈ F.map (·.1), (g' q.1 = g' q.2 ↔ Cn (P.map (·.1) ++ [p]) q.1 q.2) := fun q hq => by
          obtain ⟨f, hf, rfl⟩ := List.mem_map.mp hq
          obtain ⟨a, b⟩ := ok.ends f hf
          exact mk' _ a _ b
        refine Pu.pure ⟨⟨g', rg', by rw [mapP]; exact mk'⟩, fun q hq => ?_, fun q v hv => ?_, ?_⟩
        · show getL s1 q = none ↔ _
          rw [hget q, mapP, ← jg q hq]
          by_cases a : getL s q = none
          · by_cases b : g' q.1 = g' q.2
            · rw [if_pos ⟨a, hq, b⟩]
              exact ⟨(fun z => by cases z), fun z => absurd b z⟩
            · rw [if_neg fun z => b z.2.2, a]
              exact ⟨fun _ => b, fun _ => rfl⟩
          · rw [if_neg fun z => a z.1]
            refine ⟨fun z => absurd z a, fun z => ?_⟩
            rw [jg q hq] at z
            exact absurd ((non q hq).mpr fun k => z (k.mono fun e he => List.mem_append_left _ he)) a
        · have hv : getL s1 q = some v := hv
          rw [hget q] at hv
          by_cases a : getL s q = none ∧ q ∈ F.map (·.1) ∧ g' q.1 = g' q.2
          · rw [if_pos a] at hv
            cases hv
            refine ⟨⟨_, hF, rfl⟩, fun w => ⟨fun hw => ?_, fun c => ?_⟩⟩
            · refine ((jg q a.2.1).mp a.2.2).mono fun e he => ?_
              rw [List.mem_append, List.mem_singleton] at he
              rcases he with he | rfl
              · obtain ⟨f, hf, rfl⟩ := List.mem_map.mp he
                exact mem_above.mpr ⟨f.2, (memH f).mpr (List.mem_append_left _ hf), by have := hP f hf; omega⟩
              · exact mem_above.mpr ⟨h, hF, hw⟩
            · apply Decidable.byContradiction
              intro hw
              refine (non q a.2.1).mp a.1 (c.mono fun e he => ?_)
              obtain ⟨k, h1, h2⟩ := mem_above.mp he
              rcases List.mem_append.mp ((memH _).mp h1) with h1 | h1
              · exact List.mem_map.mpr ⟨_, h1, rfl⟩
              · rcases List.mem_cons.mp h1 with h1 | h1
                · cases h1; omega
                · have := hR _ h1
                  dsimp only at this
                  omega
          · rw [if_neg a] at hv
            exact val q v hv
        · show s1.length ≤ _
          rw [List.length_append, List.length_singleton, Nat.succ_mul]
          omega
  · refine ⟨⟨id, r0, fun x hx y hy => ?_⟩, fun q hq => ?_, (fun q v hv => by cases hv), Nat.zero_le _⟩
    · constructor
      · rintro rfl; exact .rf _
      · intro c
        cases c with
        | rf => rfl
        | st _ e => cases e <;> contradiction
    · refine ⟨fun _ c => ?_, fun _ => rfl⟩
      obtain ⟨f, hf, rfl⟩ := List.mem_map.mp hq
      have hne := ok.ne f hf
      generalize f.1.1 = x at hne c
      generalize f.1.2 = y at hne c
      cases c with
      | rf => exact hne rfl
      | st _ e => cases e <;> contradiction
  · refine Pu.pure fun q hq => ?_
    have hq' : q ∈ H.map (·.1) := (hp.map _).mem_iff.mpr hq
    cases e : getL s.1 q with
    | none => exact absurd (Cn.one hq') ((hs2.non q hq).mp e)
    | some v => exact ⟨v, rfl, hs2.val q v e⟩
end Sm

set_option maxHeartbeats 4000000
namespace Sm
open PySem PySem.Spec PyProof.Rows L2 Lf

/-! ## names, pairs -/
def prs : List Str → List Pt
  | [] => []
  | x :: xs => xs.map (fun y => (x, y)) ++ prs xs
structure TgOk (T : List Str) : Prop where
  up : T.Pairwise fun a b => ltB a b = true
  nm : ∀ x ∈ T, NmOk x
  lo : 2 ≤ T.length
  hi : T.length ≤ 5
theorem prs_len : ∀ T : List Str, (prs T).length * 2 + T.length = T.length * T.length
  | [] => rfl
  | x :: xs => by
    have ih := prs_len xs
    unfold prs
    rw [List.length_append, List.length_map, List.length_cons]
    simp only [Nat.add_mul, Nat.mul_add]
    omega
theorem prs_ten {T : List Str} (h : T.length ≤ 5) : (prs T).length ≤ 10 := by
  have h1 := prs_len T
  have h2 : T.length * T.length ≤ 5 * T.length := Nat.mul_le_mul_right _ h
  omega
theorem mem_prs {T : List Str} (h : T.Pairwise fun a b => ltB a b = true) : ∀ p ∈ prs T, p.1 ∈ T ∧ p.2 ∈ T ∧ ltB p.1 p.2 = true := by
  induction T with
  | nil => intro p hp; cases hp
  | cons x xs ih =>
    obtain ⟨h1, h2⟩ := List.pairwise_cons.mp h
    intro p hp
    unfold prs at hp
    rcases List.mem_append.mp hp with hp | hp
    · obtain ⟨y, hy, rfl⟩ := List.mem_map.mp hp
      exact ⟨List.mem_cons_self .., List.mem_cons_of_mem _ hy, h1 y hy⟩
    · obtain ⟨a, b, c⟩ := ih h2 p hp
      exact ⟨List.mem_cons_of_mem _ a, List.mem_cons_of_mem _ b, c⟩
theorem prs_has {T : List Str} {x : Str} (hx : x ∈ T) (h : 2 ≤ T.length) : ∃ p ∈ prs T, p.1 = x ∨ p.2 = x := by
  match T, h with
  | y :: z :: r, _ =>
    unfold prs
    rcases List.mem_cons.mp hx with rfl | hx
    · exact ⟨(x, z), List.mem_append_left _ (List.mem_map.mpr ⟨z, List.mem_cons_self .., rfl⟩), .inl rfl⟩
    · exact ⟨(y, x), List.mem_append_left _ (List.mem_map.mpr ⟨x, hx, rfl⟩), .inr rfl⟩
theorem prs_ne {T : List Str} (h : 2 ≤ T.length) : prs T ≠ [] := by
  match T, h with
  | y :: z :: r, _ => unfold prs; simp
theorem upU {α : Type} {R : α → α → Prop} (irr : ∀ a, ¬ R a a) (asy : ∀ a b, R a b → ¬ R b a) : ∀ xs ys : List α, xs.Pairwise R → ys.Pairwise R → (∀ z, z ∈ xs ↔ z ∈ ys) → xs = ys
  | [], [], _, _, _ => rfl
  | [], y :: ys, _, _, h => by have := (h y).mpr (List.mem_cons_self ..); cases this
  | x :: xs, [], _, _, h => by have := (h x).mp (List.mem_cons_self ..); cases this
  | x :: xs, y :: ys, h1, h2, h => by
    obtain ⟨a1, a2⟩ := List.pairwise_cons.mp h1
    obtain ⟨b1, b2⟩ := List.pairwise_cons.mp h2
    have e : x = y := by
      rcases List.mem_cons.mp ((h x).mp (List.mem_cons_self ..)) with e | e
      · exact e
      · rcases List.mem_cons.mp ((h y).mpr (List.mem_cons_self ..)) with k | k
        · exact k.symm
        · exact absurd (a1 y k) (asy _ _ (b1 x e))
    subst e
    rw [upU irr asy xs ys a2 b2 fun z => ?_]
    constructor
    · intro hz
      rcases List.mem_cons.mp ((h z).mp (List.mem_cons_of_mem _ hz)) with e | e
      · subst e; exact absurd (a1 _ hz) (irr _)
      · exact e
    · intro hz
      rcases List.mem_cons.mp ((h z).mpr (List.mem_cons_of_mem _ hz)) with e | e
      · subst e; exact absurd (b1 _ hz) (irr _)
      · exact e
theorem compM2_of {α β : Type} {te : α → TM (List β)} {g : α → List β} : ∀ xs : List α, (∀ x ∈ xs, te x = pure (g x)) → compM2 (fun _ => pure true) te xs = pure (xs.flatMap g)
  | [], _ => rfl
  | x :: xs, h => by
    unfold compM2
    rw [compM2_of xs fun z hz => h z (List.mem_cons_of_mem _ hz), h x (List.mem_cons_self ..)]
    simp
theorem pu_names {ps : List Pt} (h : ps.length ≤ 900) : Pu (t_pairs_names ps) (· = ps.flatMap fun p => [p.1, p.2]) := by
  unfold t_pairs_names
  rw [pure_bind, compM2_of (g := fun p : Pt => [p.1, p.2]) ps fun x _ => by
    rw [pure_bind, compM_map (g := fun s : Str => s) _ fun _ _ => rfl]; rfl, pure_bind]
  refine pu_lim ?_ rfl
  have : (ps.flatMap fun p => [p.1, p.2]).length = ps.length * 2 := by
    clear h
    induction ps with
    | nil => rfl
    | cons p ps ih => rw [List.flatMap_cons, List.length_append, ih]; show 2 + _ = (ps.length + 1) * 2; omega
  rw [this]
  show _ ≤ 1000000
  omega
theorem names_len (ps : List Pt) : (ps.flatMap fun p => [p.1, p.2]).length = ps.length * 2 := by
  induction ps with
  | nil => rfl
  | cons p ps ih => rw [List.flatMap_cons, List.length_append, ih]; show 2 + _ = (ps.length + 1) * 2; omega
/-- the fords between all -/
structure Fds (F : Fo) (T : List Str) : Prop where
  tg : TgOk T
  ps : F.map (·.1) = prs T
  nn : ∀ f ∈ F, 0 ≤ f.2
theorem Fds.len {F : Fo} {T : List Str} (h : Fds F T) : F.length ≤ 10 := by
  have := prs_ten h.tg.hi
  rw [← h.ps, List.length_map] at this
  exact this
theorem Fds.foOk {F : Fo} {T : List Str} (h : Fds F T) : FoOk F T where
  ends f hf := by
    have := mem_prs h.tg.up f.1 (by rw [← h.ps]; exact List.mem_map.mpr ⟨f, hf, rfl⟩)
    exact ⟨this.1, this.2.1⟩
  ne f hf e := by
    have := mem_prs h.tg.up f.1 (by rw [← h.ps]; exact List.mem_map.mpr ⟨f, hf, rfl⟩)
    rw [e, ltB_irr] at this
    cases this.2.2
  few := by have := h.len; omega
  fewV := by have := h.tg.hi; omega
theorem pu_islands {F : Fo} {T : List Str} (h : Fds F T) : Pu (t_islands_of F) (· = T) := by
  unfold t_islands_of
  have hl := h.len
  rw [pure_bind]
  refine Pu.bind (P := (· = (prs T).flatMap fun p => [p.1, p.2])) (Pu.bind (P := (· = prs T)) (pu_lim (by rw [List.length_map]; exact le_big (by omega)) h.ps) fun ps e => ?_) fun ns e => ?_
  · subst e
    exact pu_names (by have := prs_ten h.tg.hi; omega)
  · subst e
    refine Pu.okT (decide_eq_true (by rw [names_len]; have := prs_ten h.tg.hi; omega)) ?_
    refine upU (fun a z => by rw [ltB_irr] at z; cases z) (fun a b k z => by have := ltB_trans k z; rw [ltB_irr] at this; cases this) _ _ (ascT_up _) h.tg.up fun z => ?_
    rw [mem_ascT, List.mem_flatMap]
    constructor
    · rintro ⟨p, hp, hz⟩
      obtain ⟨a, b, _⟩ := mem_prs h.tg.up p hp
      rcases List.mem_cons.mp hz with rfl | hz
      · exact a
      · rw [List.mem_singleton] at hz; exact hz ▸ b
    · intro hz
      obtain ⟨p, hp, e⟩ := prs_has hz h.tg.lo
      exact ⟨p, hp, by rcases e with rfl | rfl <;> simp⟩
theorem pu_check {T ns : List Str} (h1 : T.length ≤ 900) (h2 : ∀ n ∈ ns, n ∈ T) : Pu (t_check_islands T ns) (fun _ => True) := Pu.okT (decide_eq_true ⟨h1, h2⟩) trivial
theorem frz_fords {F : Fo} {k1 k2 k3 : Bool} (h : F.length ≤ 900) (S : Sto) : (f_frozen 8) [(vD (eSq k1 (eP2 k2 (eP2 k3 PyData.str PyData.str) PyData.int)) F)] S = .ok (vD (eSq true (eP2 true (eP2 true PyData.str PyData.str) PyData.int)) F) S := by
  rw [frz_eq]
  exact frz_sq (n := 7) (le_big h) (fun x _ => frz_p2 (n := 6) (frz_p2 (n := 5) (frz_s (n := 4) _) (frz_s (n := 4) _)) (frz_i (n := 5) _)) S
theorem frz_pt {p : Pt} {k : Bool} (S : Sto) : (f_frozen 8) [(vD (eP2 k PyData.str PyData.str) p)] S = .ok (vD (eP2 true PyData.str PyData.str) p) S := by
  rw [frz_eq]
  exact frz_p2 (n := 7) (frz_s (n := 6) _) (frz_s (n := 6) _) S
theorem frz_pts {ps : List Pt} {k1 k2 : Bool} (h : ps.length ≤ 900) (S : Sto) : (f_frozen 8) [(vD (eSq k1 (eP2 k2 PyData.str PyData.str)) ps)] S = .ok (vD (eSq true (eP2 true PyData.str PyData.str)) ps) S := by
  rw [frz_eq]
  exact frz_sq (n := 7) (le_big h) (fun x _ => frz_p2 (n := 6) (frz_s (n := 5) _) (frz_s (n := 5) _)) S
theorem lis_pts {ps : List Pt} {k1 k2 : Bool} (h : ps.length ≤ 900) (S : Sto) : (f__law_lists 8) [(vD (eSq k1 (eP2 k2 PyData.str PyData.str)) ps)] S = .ok (vD (eSq false (eP2 false PyData.str PyData.str)) ps) S := by
  rw [lis_eq]
  exact lis_sq (n := 7) (le_big h) (fun x _ => lis_p2 (n := 6) (lis_s (n := 5) _) (lis_s (n := 5) _)) S
theorem lis_fords {F : Fo} {k1 k2 k3 : Bool} (h : F.length ≤ 900) (S : Sto) : (f__law_lists 8) [(vD (eSq k1 (eP2 k2 (eP2 k3 PyData.str PyData.str) PyData.int)) F)] S = .ok (vD (eSq false (eP2 false (eP2 false PyData.str PyData.str) PyData.int)) F) S := by
  rw [lis_eq]
  exact lis_sq (n := 7) (le_big h) (fun x _ => lis_p2 (n := 6) (lis_p2 (n := 5) (lis_s (n := 4) _) (lis_s (n := 4) _)) (lis_i (n := 5) _)) S
/-- what lasts of each pair -/
structure LsOk (F : Fo) (T : List Str) (L : Fo) (v : Pt → Int) : Prop where
  get : ∀ q ∈ prs T, getL L q = some (v q)
  mem : ∀ q ∈ prs T, ∃ f ∈ F, f.2 = v q
  cn : ∀ q ∈ prs T, ∀ w, w < v q ↔ Cn (above F w) q.1 q.2
theorem pu_lasts {F : Fo} {T : List Str} (h : Fds F T) (k1 k2 k3 : Bool) : Pu (t_lasts_by k1 k2 k3 F) (fun L => ∃ v, LsOk F T L v) := by
  unfold t_lasts_by
  have hl := h.len
  refine Pu.bind (pu_islands h) fun T' e => ?_
  subst e
  refine Pu.bind (P := (· = F)) (Pu.believe (frz_fords (by omega)) rfl) fun F' e => ?_
  subst e
  refine (pu_last h.foOk).mono fun L hL => ?_
  rw [h.ps] at hL
  refine ⟨fun q => (getL L q).getD 0, ⟨fun q hq => ?_, fun q hq => ?_, fun q hq => ?_⟩⟩ <;> obtain ⟨v, e, m, c⟩ := hL q hq
  · rw [e]; rfl
  · rw [e]; exact m
  · rw [e]; exact c
/-- two say the same -/
theorem LsOk.same {F : Fo} {T : List Str} {L L' : Fo} {v v' : Pt → Int} (h : LsOk F T L v) (h' : LsOk F T L' v') {q : Pt} (hq : q ∈ prs T) : v q = v' q := by
  have a := h.cn q hq
  have b := h'.cn q hq
  have c : ∀ w, w < v q ↔ w < v' q := fun w => (a w).trans (b w).symm
  have c1 := c (v q)
  have c2 := c (v' q)
  omega
end Sm

set_option maxHeartbeats 4000000
namespace Sm
open PySem PySem.Spec PyProof.Rows L2 Lf

/-! ## the law's pairs -/
theorem enum_get {α : Type} (xs : List α) (k : Nat) : (enumI xs)[k]? = (xs[k]?).map fun x => ((k : Int), x) := by
  unfold enumI
  rw [List.getElem?_zipWith]
  by_cases h : k < xs.length
  · rw [List.getElem?_range h, List.getElem?_eq_getElem h]; rfl
  · rw [List.getElem?_eq_none (by rw [List.length_range]; omega), List.getElem?_eq_none (by omega)]; rfl
theorem cut_from {α : Type} (xs : List α) (k : Nat) (h : k ≤ xs.length) : cutG xs (some (k : Int)) none = xs.drop k := by
  unfold cutG
  rw [HT.sIx_nat, HT.sIx_none, Nat.min_eq_left h, List.take_of_length_le]
  rw [List.length_drop]
  exact Nat.le_refl _
theorem prs_drop_len : ∀ (T : List Str) (k : Nat), (prs (T.drop k)).length ≤ (prs T).length
  | [], k => by rw [List.drop_nil]; exact Nat.le_refl _
  | x :: xs, 0 => Nat.le_refl _
  | x :: xs, k + 1 => by
    have := prs_drop_len xs k
    show (prs (xs.drop k)).length ≤ (xs.map (fun y => (x, y)) ++ prs xs).length
    rw [List.length_append]
    omega
theorem pu_pairs {T : List Str} (h : T.length ≤ 5) : Pu (t__law_pairs T) (· = prs T) := by
  unfold t__law_pairs
  rw [pure_bind]
  refine Pu.bind (Pu.forT (fun pre s => s ++ prs (T.drop pre.length) = prs T) ?_ ?_) fun s hs => ?_
  · rintro pre ⟨i, x⟩ post s e hs
    have g := enum_get T pre.length
    rw [e, List.getElem?_append_right (Nat.le_refl _), Nat.sub_self] at g
    have hk : pre.length < T.length := by
      apply Decidable.byContradiction
      intro hn
      rw [List.getElem?_eq_none (by omega : T.length ≤ pre.length)] at g
      cases g
    rw [List.getElem?_eq_getElem hk] at g
    have g' : (i, x) = ((pre.length : Int), T[pre.length]) := by cases g; rfl
    obtain ⟨rfl, rfl⟩ := Prod.mk.inj g'
    rw [List.drop_eq_getElem_cons hk] at hs
    have ten := prs_ten h
    have hl := congrArg List.length hs
    rw [show prs (T[pre.length] :: T.drop (pre.length + 1)) = (T.drop (pre.length + 1)).map (fun y => (T[pre.length], y)) ++ prs (T.drop (pre.length + 1)) from rfl] at hs
    rw [List.length_append] at hl
    dsimp only
    rw [pure_bind, show ((pre.length : Int) + 1) = ((pre.length + 1 : Nat) : Int) by omega, cut_from T (pre.length + 1) (by omega)]
    refine Pu.bind (P := (· = s ++ (T.drop (pre.length + 1)).map fun y => (T[pre.length], y))) (Pu.bind (P := (· = (T.drop (pre.length + 1)).map fun y => (T[pre.length], y))) (pu_lim (by rw [List.length_map, List.length_drop]; exact le_big (by omega)) rfl) fun y e => ?_) fun y e => ?_
    · subst e
      refine Pu.okT (decide_eq_true ?_) rfl
      rw [List.length_map, List.length_drop]
      exact le_big (by omega)
    · subst e
      refine Pu.pure ?_
      rw [List.length_append, List.append_assoc]
      exact hs
  · rfl
  · refine Pu.pure ?_
    have el : (enumI T).length = T.length := by
      unfold enumI
      rw [List.length_zipWith, List.length_range, Nat.min_self]
    rw [el, List.drop_length] at hs
    rw [← hs]
    exact (List.append_nil _).symm
/-! ## draws -/
theorem dr_take {low : Int} (h1 : 1 ≤ low) (h2 : low < 1000000) : Dr 1 (drawT f__law_take low) (fun r => 0 ≤ r ∧ r < low) := by
  rw [take_eq]
  exact Dr.draw h1 h2
theorem at_in {α : Type} (xs : List α) (r : Int) (h0 : 0 ≤ r) (h1 : r < xs.length) : ∃ y ∈ xs, atI xs r = some y := by
  have hn : r.toNat < xs.length := by omega
  refine ⟨xs[r.toNat], List.getElem_mem hn, ?_⟩
  unfold atI ixN
  rw [if_pos h0, if_pos (by omega)]
  exact List.getElem?_eq_getElem hn
theorem dr_of {α : Type} [DecidableEq α] {xs : List α} (h : xs ≠ []) (hl : xs.length ≤ 900) : Dr 1 (t__law_of xs) (· ∈ xs) := by
  unfold t__law_of
  have hp := List.length_pos_iff.mpr h
  refine (Dr.bind (b := 0) (dr_take (by omega) (by omega)) fun r ⟨h0, h1⟩ => ?_).le (Nat.le_refl _)
  obtain ⟨y, hy, e⟩ := at_in xs r h0 h1
  exact (Pu.someT e hy).dr
theorem er_perm {α : Type} : ∀ (ys : List α) (n : Nat) (h : n < ys.length), (ys[n] :: ys.eraseIdx n).Perm ys
  | [], _, h => by cases h
  | y :: ys, 0, _ => List.Perm.refl _
  | y :: ys, n + 1, h => by
    have := er_perm ys n (Nat.lt_of_succ_lt_succ h)
    rw [List.eraseIdx_cons_succ, List.getElem_cons_succ]
    exact (List.Perm.swap y _ _).trans (List.Perm.cons y this)
theorem pop_in {α : Type} (ys : List α) (r : Int) (h0 : 0 ≤ r) (h1 : r < ys.length) : ∃ y zs, popI ys r = some (y, zs) ∧ (y :: zs).Perm ys := by
  have hn : r.toNat < ys.length := by omega
  refine ⟨ys[r.toNat], ys.eraseIdx r.toNat, ?_, er_perm ys _ hn⟩
  unfold popI ixN
  rw [if_pos h0, if_pos (by omega)]
  show (ys[r.toNat]?).map _ = _
  rw [List.getElem?_eq_getElem hn]
  rfl
theorem rangeI_len (lo : Int) (n : Nat) : (rangeI lo n).length = n := by unfold rangeI; rw [List.length_map, List.length_range]
theorem pu_range {j : Int} (h0 : 0 ≤ j) (h1 : j ≤ 900) : Pu (rangeT j) (· = rangeI 0 j.toNat) := Pu.okT (decide_eq_true ⟨by omega, by omega⟩) rfl
/-- some of the pool, each once -/
structure Pick {α : Type} (pool : List α) (n : Int) (xs : List α) : Prop where
  perm : ∃ rest, (xs ++ rest).Perm pool
  len : (xs.length : Int) = if (pool.length : Int) < n then (pool.length : Int) else n
theorem Pick.sub {α : Type} {pool : List α} {n : Int} {xs : List α} (h : Pick pool n xs) : ∀ x ∈ xs, x ∈ pool := fun x hx => by
  obtain ⟨r, p⟩ := h.perm
  exact p.mem_iff.mp (List.mem_append_left _ hx)
theorem Pick.le {α : Type} {pool : List α} {n : Int} {xs : List α} (h : Pick pool n xs) : xs.length ≤ pool.length := by
  obtain ⟨r, p⟩ := h.perm
  have := p.length_eq
  rw [List.length_append] at this
  omega
theorem dr_pick {α : Type} [DecidableEq α] {pool : List α} {n : Int} (hl : pool.length ≤ 900) (hn : 0 ≤ n) : Dr pool.length (t__law_pick pool n) (Pick pool n) := by
  unfold t__law_pick
  generalize hm : (if (pool.length : Int) < n then (pool.length : Int) else n) = m
  have hm0 : 0 ≤ m ∧ m ≤ pool.length := by
    subst hm
    split <;> omega
  refine Dr.pu (pu_range (j := m) hm0.1 (by omega)) fun xs e => ?_
  have xl : xs.length = m.toNat := by rw [e, rangeI_len]
  have hb : xs.length * 1 + 0 ≤ pool.length := by omega
  refine Dr.le (Dr.bind (Dr.forT (a := 1) (fun (pre : List Int) (s : List α × List α) => (s.2 ++ s.1).Perm pool ∧ s.2.length = pre.length) ?_ ⟨List.Perm.refl _, rfl⟩) (b := 0) fun s ⟨hs, hl2⟩ => ?_) hb
  · rintro p y q ⟨rest, found⟩ e2 ⟨hs, hl2⟩
    have hlen := hs.length_eq
    rw [List.length_append] at hlen
    have hx := congrArg List.length e2
    rw [List.length_append, List.length_cons] at hx
    dsimp only at hs hl2 hlen ⊢
    refine (Dr.bind (b := 0) (dr_take (by omega) (by omega)) fun r ⟨h0, h1⟩ => Pu.dr ?_)
    obtain ⟨y', zs, e3, hp⟩ := pop_in rest r h0 h1
    rw [show decide (found.length ≤ big ∧ rest.length ≤ big) = true from decide_eq_true ⟨le_big (by omega), le_big (by omega)⟩, okT_true, pure_bind, e3, someT_some, pure_bind]
    refine Pu.pure ⟨?_, ?_⟩
    · show ((found ++ [y']) ++ zs).Perm pool
      rw [List.append_assoc]
      exact (List.Perm.append_left found hp).trans hs
    · show (found ++ [y']).length = (p ++ [y]).length
      rw [List.length_append, List.length_append, hl2]
      rfl
  · refine Dr.pure ⟨⟨_, hs⟩, ?_⟩
    rw [hl2, xl, hm]
    omega
/-- the names that the law writes -/
def names12 : List Str := [("a" : Str), ("b" : Str), ("c" : Str), ("d" : Str), ("e" : Str), ("ab" : Str), ("ba" : Str), ("abcdefgh" : Str), ("abcdefgi" : Str), ("x" : Str), ("zz" : Str), ("q" : Str)]
theorem names_ok : names12.all (fun x => PyData.strOk x) = true := by decide +kernel
theorem names_nd : names12.Nodup := by decide +kernel
theorem dr_isles {n : Int} (h1 : 2 ≤ n) (h2 : n ≤ 5) : Dr 12 (t__law_isles n) (fun T => TgOk T ∧ (T.length : Int) = n) := by
  unfold t__law_isles
  refine (Dr.bind (b := 0) (Dr.bind (b := 0) (dr_pick (pool := names12) (by decide) (by omega)) fun xs hx => Pu.dr (?_ : Pu _ (fun T => TgOk T ∧ (T.length : Int) = n))) fun T hT => Dr.pure hT).le (by decide)
  have hl := hx.len
  have e12 : names12.length = 12 := rfl
  rw [e12, if_neg (by omega)] at hl
  refine Pu.okT (decide_eq_true (by omega)) ?_
  obtain ⟨rest, hp⟩ := hx.perm
  have nd : (xs ++ rest).Nodup := hp.nodup_iff.mpr names_nd
  have nd2 : (sortT xs).Nodup := (sortT_perm xs).nodup_iff.mpr (List.nodup_append.mp nd).1
  have up := (sortT_up xs).and nd2
  have sl : (sortT xs).length = xs.length := (sortT_perm xs).length_eq
  refine ⟨⟨up.imp fun {a b} h => leT_ne h.1 h.2, fun x hx' => ?_, by omega, by omega⟩, by omega⟩
  exact List.all_eq_true.mp names_ok x (hx.sub x ((sortT_perm xs).mem_iff.mp hx'))
theorem dr_fords {T : List Str} (h : TgOk T) : Dr 21 (t__law_fords T 4) (fun F => Fds F T) := by
  unfold t__law_fords
  have ten := prs_ten h.hi
  refine (Dr.bind (b := 20) (dr_of (xs := ([(1 : Int), (1 : Int), (1 : Int), (7 : Int), (10 ^ 39 : Int)] : List Int)) (by decide) (by decide)) fun u hu => ?_).le (Nat.le_refl _)
  have hu2 : 0 ≤ u ∧ smallI u = true := by
    simp only [List.mem_cons, List.not_mem_nil, or_false] at hu
    rcases hu with rfl | rfl | rfl | rfl | rfl
    all_goals exact ⟨by decide +kernel, by decide +kernel⟩
  refine Dr.bind (a := 20) (b := 0) (P := fun F => Fds F T) (Dr.pu (pu_pairs h.hi) fun ps e => ?_) fun F hF => Dr.pure hF
  subst e
  refine Dr.le (Dr.bind (Dr.compF (a := 2) (fun f : Pt × Int => f.1) (fun f => 0 ≤ f.2) (prs T) fun p hp => ?_) (b := 0) fun F ⟨h1, h2⟩ => ?_) (show (prs T).length * 2 + 0 ≤ 20 by omega)
  · refine Dr.bind (a := 2) (b := 0) (P := fun x : Int => 0 ≤ x) ?_ fun x hx => Dr.pure ⟨rfl, hx⟩
    refine Dr.bind (a := 1) (b := 1) (P := fun x : Int => 0 ≤ x) (Dr.bind (a := 1) (b := 0) (dr_take (by omega) (by omega)) fun r ⟨h0, h1⟩ => ?_) fun x6 h6 => ?_
    · refine (Pu.okT ?_ (Int.mul_nonneg hu2.1 h0)).dr
      rw [hu2.2, smallI_lt h0 (by omega)]
      rfl
    · refine Dr.bind (a := 1) (b := 0) (P := fun x : Int => 0 ≤ x) (Dr.bind (a := 1) (b := 0) (P := fun x : Int => 0 ≤ x ∧ x ≤ 3) (Dr.bind (a := 1) (b := 0) (dr_take (by omega) (by omega)) fun r ⟨h0, h1⟩ => ?_) fun x5 h5 => ?_) fun x7 h7 => Dr.pure (by omega)
      · refine (Pu.okT ?_ ⟨by omega, by omega⟩).dr
        decide +kernel
      · generalize hk : (if decide ((1 : Int) < u) = true then (1 : Int) else 0) = k
        have hk2 : 0 ≤ k ∧ k ≤ 1 := by subst hk; split <;> omega
        refine (Pu.okT ?_ (Int.mul_nonneg hk2.1 h5.1)).dr
        rw [smallI_lt hk2.1 (by omega), smallI_lt h5.1 (by omega)]
        rfl
  · refine (pu_lim ?_ ⟨h, h1, h2⟩).dr
    rw [← List.length_map (f := fun f : Pt × Int => f.1), h1]
    exact le_big (by omega)
end Sm

set_option maxHeartbeats 4000000
namespace Sm
open PySem PySem.Spec PyProof.Rows L2 Lf

/-! ## who can be walked to -/
theorem shp_s {x : Str} (h : NmOk x) : shp (PyData.str x) = true := (Sh.s (n := 0) h).shp (by decide)
theorem shp_ss {xs : List Str} {k : Bool} (h : ∀ x ∈ xs, NmOk x) : shp (eSq k PyData.str xs) = true := (Sh.sq (n := 0) fun x hx => Sh.s (h x hx)).shp (by decide)
theorem pu_add {s : List Str} {e : Pt} (hs : ∀ y ∈ s, NmOk y) (h1 : NmOk e.1) (h2 : NmOk e.2) (hl : s.length ≤ 900) :
    Pu (((okT (shp (PyData.str e.1) && shp (eSq false PyData.str s)) (decide (e.1 ∈ s))) >>= fun x11 => if x11 then (okT (shp (PyData.str e.2) && shp (eSq false PyData.str s)) (!decide (e.2 ∈ s))) else pure false) >>= fun c14 => (if c14 then (okT (decide (s.length ≤ big)) () >>= fun _ => (pure (s ++ [e.2]))) else (pure s)) >>= fun (s13 : List Str) => (pure s13)) (· = addS s e) := by
  rw [shp_s h1, shp_s h2, shp_ss hs, show (true && true) = true from rfl, okT_true, okT_true, pure_bind, decide_eq_true (le_big hl), okT_true]
  by_cases a : e.1 ∈ s
  · rw [decide_eq_true a, if_pos rfl, pure_bind]
    by_cases b : e.2 ∈ s
    · rw [show addS s e = s from if_neg fun z => z.2 b, decide_eq_true b]
      exact Pu.pure rfl
    · rw [show addS s e = s ++ [e.2] from if_pos ⟨a, b⟩, decide_eq_false b]
      exact Pu.pure rfl
  · rw [show addS s e = s from if_neg fun z => a z.1, decide_eq_false a]
    exact Pu.pure rfl
structure Rd (T : List Str) (E : List Pt) (x : Str) (w : Int) (s0 : List Str) (pre : Fo) (s : List Str) : Prop where
  lot : Lot T E x s
  app : ∃ r, s = s0 ++ r
  same : closedB E s0 → s = s0
  cl : ∀ e ∈ above pre w, (e.1 ∈ s0 ∨ e.2 ∈ s0) → e.1 ∈ s ∧ e.2 ∈ s
theorem pu_lot {F : Fo} {T : List Str} {w : Int} {x : Str} (ok : FoOk F T) (nm : ∀ y ∈ T, NmOk y) (hT : T.length ≤ 60) (hx : x ∈ T) : Pu (t__law_lot F T w x) (fun l => (∀ y ∈ l, y ∈ T) ∧ ∀ y, y ∈ l ↔ Cn (above F w) x y) := by
  unfold t__law_lot
  refine Pu.bind (pu_range (j := (T.length : Int)) (by omega) (by omega)) fun xs e => ?_
  have xl : xs.length = T.length := by rw [e, rangeI_len]; omega
  generalize hE : above F w = E
  have lotLen : ∀ s, Lot T E x s → s.length ≤ T.length := fun s h => nodup_len s T h.nd h.sub
  refine Pu.bind (Pu.forT (fun (pre : List Int) (s : List Str) => Lot T E x s ∧ (closedB E s ∨ pre.length + 1 ≤ s.length)) ?_ ?_) fun s ⟨hs, hc⟩ => ?_
  · rintro p y q s0 _ ⟨l0, h0⟩
    rw [pure_bind]
    refine Pu.bind (P := fun s => Lot T E x s ∧ (closedB E s ∨ (p ++ [y]).length + 1 ≤ s.length)) ?_ fun s h => Pu.pure h
    refine Pu.mono (Pu.forT (Rd T E x w s0) ?_ ?_) fun s h => ⟨h.lot, ?_⟩
    · rintro pre ⟨⟨a, b⟩, h⟩ post s eF r
      have hF : ((a, b), h) ∈ F := by rw [eF]; exact List.mem_append_right _ (List.mem_cons_self ..)
      obtain ⟨ha, hb⟩ := ok.ends _ hF
      dsimp only at ha hb ⊢
      have habove : above (pre ++ [((a, b), h)]) w = above pre w ++ (if w < h then [(a, b)] else []) := by
        unfold above
        rw [List.filter_append, List.map_append]
        by_cases c : w < h
        · rw [if_pos c, List.filter_cons_of_pos (by exact decide_eq_true c)]; rfl
        · rw [if_neg c, List.filter_cons_of_neg (by simpa using c)]; rfl
      refine Pu.bind (P := Rd T E x w s0 (pre ++ [((a, b), h)])) ?_ fun s h => Pu.pure h
      by_cases c : w < h
      · rw [decide_eq_true c, if_pos rfl, pure_bind]
        have he : (a, b) ∈ E := by rw [← hE]; exact mem_above.mpr ⟨h, hF, c⟩
        have l1 : Lot T E x (addS s (a, b)) := r.lot.add (.inl he) hb
        have l2 : Lot T E x (addE s (a, b)) := r.lot.add2 he ha hb
        refine Pu.bind (P := (· = addE s (a, b))) ?_ fun s2 e2 => Pu.pure ?_
        · show Pu (_ >>= _) _
          refine Pu.bind (P := (· = addS s (a, b))) (pu_add (e := (a, b)) (fun y hy => nm y (r.lot.sub y hy)) (nm a ha) (nm b hb) (by have := lotLen s r.lot; omega)) fun s1 e1 => ?_
          subst e1
          show Pu (_ >>= _) _
          refine Pu.bind (P := (· = addE s (a, b))) (pu_add (e := (b, a)) (fun y hy => nm y (l1.sub y hy)) (nm b hb) (nm a ha) (by have := lotLen _ l1; omega)) fun s2 e2 => ?_
          exact Pu.pure e2
        · subst e2
          obtain ⟨r1, e1⟩ := r.app
          obtain ⟨r2, e2⟩ := addS_pre s (a, b)
          obtain ⟨r3, e3⟩ := addS_pre (addS s (a, b)) (b, a)
          have eA : addE s (a, b) = s ++ (r2 ++ r3) := by
            unfold addE
            rw [e3, e2, List.append_assoc]
          refine ⟨l2, ⟨r1 ++ (r2 ++ r3), by rw [eA, e1, List.append_assoc]⟩, fun hc => ?_, ?_⟩
          · have es := r.same hc
            rw [es]
            exact addE_same (hc _ he)
          · rw [habove, if_pos c]
            intro e he2 ho
            rcases List.mem_append.mp he2 with he2 | he2
            · obtain ⟨m1, m2⟩ := r.cl e he2 ho
              rw [eA]
              exact ⟨List.mem_append_left _ m1, List.mem_append_left _ m2⟩
            · rw [List.mem_singleton] at he2
              subst he2
              refine addE_has ?_
              rw [e1]
              exact ho.imp (fun z => List.mem_append_left _ z) fun z => List.mem_append_left _ z
      · rw [decide_eq_false c, if_neg (by decide)]
        refine Pu.pure ⟨r.lot, r.app, r.same, ?_⟩
        rw [habove, if_neg c, List.append_nil]
        exact r.cl
    · exact ⟨l0, ⟨[], (List.append_nil _).symm⟩, fun _ => rfl, fun e he => by cases he⟩
    · rw [List.length_append, List.length_singleton]
      obtain ⟨r, er⟩ := h.app
      have hcl := h.cl
      rw [hE] at hcl
      by_cases c : closedB E s0
      · left
        rw [h.same c]
        exact c
      · by_cases hr : r = []
        · left
          subst hr
          rw [List.append_nil] at er
          rw [← er] at hcl
          exact fun e he => ⟨fun z => (hcl e he (.inl z)).2, fun z => (hcl e he (.inr z)).1⟩
        · right
          have := List.length_pos_iff.mpr hr
          have hp := h0.resolve_left c
          rw [er, List.length_append]
          omega
  · exact ⟨⟨by simp, fun y hy => by rw [List.mem_singleton] at hy; exact hy ▸ hx, fun y hy => by rw [List.mem_singleton] at hy; rw [hy]; exact .rf _, List.mem_singleton.mpr rfl⟩, .inr (Nat.le_refl _)⟩
  · have hcl : closedB E s := hc.resolve_right fun z => by have := lotLen s hs; omega
    have := lotLen s hs
    rw [show decide (s.length < 64) = true from decide_eq_true (by omega), okT_true, pure_bind]
    refine Pu.pure ⟨fun y hy => hs.sub y ((sortT_perm s).mem_iff.mp hy), fun y => ?_⟩
    rw [(sortT_perm s).mem_iff]
    exact ⟨hs.cn y, fun c => closed_cn hcl c hs.has⟩
open Classical in
theorem pu_met {F : Fo} {T : List Str} {w : Int} {p : Pt} (ok : FoOk F T) (nm : ∀ y ∈ T, NmOk y) (hT : T.length ≤ 60) (h1 : p.1 ∈ T) (h2 : p.2 ∈ T) : Pu (t__law_met F T w p) (fun b => b = true ↔ Cn (above F w) p.1 p.2) := by
  unfold t__law_met
  refine Pu.bind (pu_lot ok nm hT h1) fun l ⟨a, b⟩ => ?_
  refine Pu.okT (by rw [shp_s (nm _ h2), shp_ss fun y hy => nm y (a y hy)]; rfl) ?_
  rw [decide_eq_true_iff]
  exact b _
/-- met, by what lasts -/
theorem met_eq {F : Fo} {T : List Str} {L : Fo} {v : Pt → Int} {w : Int} {p : Pt} (h : Fds F T) (l : LsOk F T L v) (hp : p ∈ prs T) : t__law_met F T w p = pure (decide (w < v p)) := by
  obtain ⟨a, b, _⟩ := mem_prs h.tg.up p hp
  have := h.tg.hi
  refine ((pu_met h.foOk h.tg.nm (by omega) a b).mono fun c hc => ?_).eq
  have k := l.cn p hp w
  by_cases z : w < v p
  · rw [decide_eq_true z]; exact hc.mpr (k.mp z)
  · rw [decide_eq_false z]
    cases c with
    | false => rfl
    | true => exact absurd (k.mpr (hc.mp rfl)) z
/-! ## the waters at which something turns -/
structure Tn (F : Fo) (ws : List Int) : Prop where
  up : ws.Pairwise (· < ·)
  zero : (0 : Int) ∈ ws
  has : ∀ f ∈ F, f.2 ∈ ws
  pred : ∀ f ∈ F, 1 ≤ f.2 → f.2 - 1 ∈ ws
  nn : ∀ w ∈ ws, 0 ≤ w
  few : ws.length ≤ 61
theorem pu_turns {F : Fo} (hl : F.length ≤ 20) (nn : ∀ f ∈ F, 0 ≤ f.2) : Pu (t__law_turns F) (Tn F) := by
  unfold t__law_turns
  rw [pure_bind]
  refine Pu.bind (Pu.forT (fun (pre : Fo) (s : List Int) => s.length = 1 + 3 * pre.length ∧ (0 : Int) ∈ s ∧ (∀ f ∈ pre, f.2 ∈ s ∧ (1 ≤ f.2 → f.2 - 1 ∈ s)) ∧ ∀ w ∈ s, 0 ≤ w) ?_ ?_) fun s ⟨a, b, c, d⟩ => ?_
  · rintro pre ⟨q, h⟩ post s e ⟨a, b, c, d⟩
    have hF : (q, h) ∈ F := by rw [e]; exact List.mem_append_right _ (List.mem_cons_self ..)
    have h0 := nn _ hF
    have hlen := congrArg List.length e
    rw [List.length_append, List.length_cons] at hlen
    dsimp only at h0 ⊢
    rw [show decide (s.length + ([h, h + 1, if h - 1 > 0 then h - 1 else 0] : List Int).length ≤ big) = true from decide_eq_true (le_big (by show s.length + 3 ≤ 900; omega)), okT_true, pure_bind]
    refine Pu.pure ⟨?_, List.mem_append_left _ b, fun f hf => ?_, fun w hw => ?_⟩
    · rw [List.length_append, List.length_append, a]
      show 1 + 3 * pre.length + 3 = 1 + 3 * (pre.length + 1)
      omega
    · rcases List.mem_append.mp hf with hf | hf
      · exact ⟨List.mem_append_left _ (c f hf).1, fun z => List.mem_append_left _ ((c f hf).2 z)⟩
      · rw [List.mem_singleton] at hf
        subst hf
        refine ⟨List.mem_append_right _ (List.mem_cons_self ..), fun z => List.mem_append_right _ ?_⟩
        dsimp only at z ⊢
        by_cases k : h - 1 > 0
        · rw [if_pos k]; simp
        · rw [if_neg k, show h - 1 = 0 by omega]; simp
    · rcases List.mem_append.mp hw with hw | hw
      · exact d w hw
      · simp only [List.mem_cons, List.not_mem_nil, or_false] at hw
        rcases hw with rfl | rfl | rfl
        · exact h0
        · omega
        · split <;> omega
  · exact ⟨rfl, List.mem_cons_self .., (fun f hf => by cases hf), fun w hw => by rw [List.mem_singleton] at hw; omega⟩
  · refine Pu.okT (decide_eq_true (by omega)) ⟨ascI_up _, mem_ascI.mpr b, fun f hf => mem_ascI.mpr (c f hf).1, fun f hf z => mem_ascI.mpr ((c f hf).2 z), fun w hw => d w (mem_ascI.mp hw), ?_⟩
    have := nodup_len (ascI s) s ((ascI_up s).imp fun {a b} h => Int.ne_of_lt h) fun x hx => mem_ascI.mp hx
    omega
end Sm

set_option maxHeartbeats 4000000
namespace Sm
open PySem PySem.Spec PyProof.Rows L2 Lf
theorem hand72 (S : Sto) : f__law_by_hand_right [] S = .ok (.d (.bool true)) S := by kernel_rfl
end Sm

set_option maxHeartbeats 4000000
namespace Sm
open PySem PySem.Spec PyProof.Rows L2 Lf

theorem minI_leW : ∀ (ns : List Int) (m : Int), minI ns m ≤ m ∧ ∀ x ∈ ns, minI ns m ≤ x
  | [], m => ⟨Int.le_refl _, fun x hx => by cases hx⟩
  | n :: ns, m => by
    have ih := minI_leW ns (if n < m then n else m)
    have h : minI (n :: ns) m = minI ns (if n < m then n else m) := rfl
    rw [h]
    have h1 : (if n < m then n else m) ≤ m ∧ (if n < m then n else m) ≤ n := by split <;> omega
    refine ⟨by omega, fun x hx => ?_⟩
    rcases List.mem_cons.mp hx with rfl | hx
    · omega
    · exact ih.2 x hx
theorem minI_memW : ∀ (ns : List Int) (m : Int), minI ns m = m ∨ minI ns m ∈ ns
  | [], m => .inl rfl
  | n :: ns, m => by
    have h : minI (n :: ns) m = minI ns (if n < m then n else m) := rfl
    rw [h]
    rcases minI_memW ns (if n < m then n else m) with e | e
    · rw [e]
      split
      · exact .inr (List.mem_cons_self ..)
      · exact .inl rfl
    · exact .inr (List.mem_cons_of_mem _ e)
theorem pu_gets {L : Fo} {v : Pt → Int} {ps : List Pt} (h : ∀ q ∈ ps, getL L q = some (v q)) (hl : ps.length ≤ 900) : Pu ((pure ps) >>= fun xs_ => compM (fun (a1 : (Str × Str)) => pure true) (fun (a1 : (Str × Str)) => (someT (getL L a1))) xs_ >>= limT) (· = ps.map v) := by
  rw [pure_bind, compM_map (g := v) ps fun x hx => by rw [h x hx]; rfl, pure_bind]
  exact pu_lim (by rw [List.length_map]; exact le_big hl) rfl
structure Sm' (T : List Str) (J : List Pt) : Prop where
  sub : ∀ q ∈ J, q ∈ prs T
  few : J.length ≤ 10
  ne : J ≠ []
def leW (v : Pt → Int) : List Pt → Int
  | [] => 0
  | x :: xs => minI (xs.map v) (v x)
theorem leW_le {v : Pt → Int} {W : List Pt} : ∀ q ∈ W, leW v W ≤ v q := by
  cases W with
  | nil => intro q hq; cases hq
  | cons x xs =>
    have mn := minI_leW (xs.map v) (v x)
    intro q hq
    rcases List.mem_cons.mp hq with rfl | hq
    · exact mn.1
    · exact mn.2 _ (List.mem_map.mpr ⟨q, hq, rfl⟩)
theorem leW_mem {v : Pt → Int} {W : List Pt} (h : W ≠ []) : ∃ q ∈ W, v q = leW v W := by
  cases W with
  | nil => exact absurd rfl h
  | cons x xs =>
    rcases minI_memW (xs.map v) (v x) with e | e
    · exact ⟨x, List.mem_cons_self .., e.symm⟩
    · obtain ⟨q, hq, e⟩ := List.mem_map.mp e
      exact ⟨q, List.mem_cons_of_mem _ hq, e⟩
theorem leW_congr {v v' : Pt → Int} {W : List Pt} (h : ∀ q ∈ W, v q = v' q) : leW v W = leW v' W := by
  cases W with
  | nil => rfl
  | cons x xs =>
    show minI (xs.map v) (v x) = minI (xs.map v') (v' x)
    rw [h x (List.mem_cons_self ..), List.map_congr_left fun q hq => h q (List.mem_cons_of_mem _ hq)]
theorem pu_keeps {L : Fo} {v : Pt → Int} {W : List Pt} {g : Pt} (hW : ∀ q ∈ W, getL L q = some (v q)) (hg : getL L g = some (v g)) (ne : W ≠ []) (lW : W.length ≤ 900) : t_keeps_rule L (W, g) = pure (decide (leW v W ≤ v g)) := by
  refine Pu.eq ?_
  unfold t_keeps_rule
  dsimp only
  refine Pu.bind (P := (· = leW v W)) (Pu.bind (P := (· = W.map v)) (pu_gets hW lW) fun y e => ?_) fun y e => ?_
  · subst e
    cases W with
    | nil => exact absurd rfl ne
    | cons x xs => exact Pu.someT (x := leW v (x :: xs)) rfl rfl
  · subst e
    rw [hg, someT_some, pure_bind]
    exact Pu.pure rfl
theorem asked {F : Fo} {T : List Str} {W : List Pt} {g : Pt} (h : Fds F T) (hW : Sm' T W) (hg : g ∈ prs T) (k1 k2 k3 k4 k5 : Bool) : t_asked_rule k1 k2 k3 k4 k5 F W g = pure (W, g) := by
  refine Pu.eq ?_
  unfold t_asked_rule
  have a := hW.few
  refine Pu.bind (P := fun _ => True) (Pu.bind (pu_islands h) fun T' e => ?_) fun _ _ => ?_
  · subst e
    refine Pu.bind (P := (· = (W ++ [g]).flatMap fun p => [p.1, p.2])) (Pu.bind (P := (· = W ++ [g])) (Pu.okT (decide_eq_true (le_big (by rw [List.length_append]; show _ + 1 ≤ _; omega))) rfl) fun ps e => ?_) fun ns e => ?_
    · subst e
      exact pu_names (by rw [List.length_append]; show _ + 1 ≤ _; omega)
    · subst e
      have := h.tg.hi
      refine pu_check (by omega) fun n hn => ?_
      obtain ⟨p, hp, hn⟩ := List.mem_flatMap.mp hn
      have hp' : p ∈ prs T' := (List.mem_append.mp hp).elim (hW.sub p) fun z => by rw [List.mem_singleton] at z; exact z ▸ hg
      obtain ⟨c, d, _⟩ := mem_prs h.tg.up p hp'
      rcases List.mem_cons.mp hn with rfl | hn
      · exact c
      · rw [List.mem_singleton] at hn; exact hn ▸ d
  · rw [believe_ok (frz_pts (k1 := k4) (k2 := k5) (by omega : W.length ≤ 900)), believe_ok (frz_pt (p := g) (k := k5))]
    exact Pu.pure rfl
def brk (v : Pt → Int) (W : List Pt) (g : Pt) : Option Int := if leW v W ≤ v g then none else some (v g)
theorem keep_ok {F : Fo} {T : List Str} {L0 : Fo} {v : Pt → Int} {W : List Pt} {g : Pt} (h : Fds F T) (l0 : LsOk F T L0 v) (hW : Sm' T W) (hg : g ∈ prs T) (k1 k2 k3 k4 k5 : Bool) : t_fords_keep k1 k2 k3 k4 k5 F W g = pure (decide (leW v W ≤ v g)) := by
  refine Pu.eq ?_
  unfold t_fords_keep
  rw [asked h hW hg, pure_bind]
  refine Pu.bind (pu_lasts h k1 k2 k3) fun L ⟨v', l⟩ => ?_
  rw [pu_keeps (v := v') (fun q hq => l.get q (hW.sub q hq)) (l.get g hg) hW.ne (by have := hW.few; omega), leW_congr (v := v') (v' := v) fun q hq => l.same l0 (hW.sub q hq), l.same l0 hg]
  exact Pu.pure rfl
theorem brk_ok {F : Fo} {T : List Str} {L0 : Fo} {v : Pt → Int} {W : List Pt} {g : Pt} (h : Fds F T) (l0 : LsOk F T L0 v) (hW : Sm' T W) (hg : g ∈ prs T) (k1 k2 k3 k4 k5 : Bool) : t_broken_at k1 k2 k3 k4 k5 F W g = pure (brk v W g) := by
  refine Pu.eq ?_
  unfold t_broken_at
  rw [asked h hW hg, pure_bind]
  refine Pu.bind (pu_lasts h k1 k2 k3) fun L ⟨v', l⟩ => ?_
  rw [pu_keeps (v := v') (fun q hq => l.get q (hW.sub q hq)) (l.get g hg) hW.ne (by have := hW.few; omega), leW_congr (v := v') (v' := v) fun q hq => l.same l0 (hW.sub q hq), pure_bind]
  unfold brk
  dsimp only
  rw [l.get g hg, l.same l0 hg]
  by_cases c : leW v W ≤ v g
  · rw [decide_eq_true c, if_pos c]; exact Pu.pure rfl
  · rw [decide_eq_false c, if_neg c]; exact Pu.pure rfl
/-! ## what the law asks -/
theorem shp_pts {T : List Str} {ps : List Pt} {k k' : Bool} (nm : ∀ x ∈ T, NmOk x) (up : T.Pairwise fun a b => ltB a b = true) (h : ∀ q ∈ ps, q ∈ prs T) : shp (eSq k (eP2 k' PyData.str PyData.str) ps) = true :=
  (Sh.sq (n := 1) fun q hq => Sh.p2 (n := 0) (Sh.s (nm _ (mem_prs up q (h q hq)).1)) (Sh.s (nm _ (mem_prs up q (h q hq)).2.1))).shp (by decide)
theorem filter_nil {α : Type} [DecidableEq α] (p : α → Bool) (xs : List α) : decide (xs.filter p = []) = xs.all fun x => !p x := by
  induction xs with
  | nil => rfl
  | cons x xs ih =>
    rw [List.all_cons, ← ih]
    cases e : p x with
    | true => rw [List.filter_cons_of_pos e]; rfl
    | false => rw [List.filter_cons_of_neg (by simp [e])]; rfl
theorem forF_find {α γ : Type} {body : α → Unit → TM (Fl Unit γ)} (p : α → Bool) (g : α → γ) : ∀ xs : List α, (∀ x ∈ xs, body x () = pure (if p x then .rt (g x) else .nx ())) → forF xs () body = pure (match xs.find? p with | some x => .rt (g x) | none => .nx ())
  | [], _ => rfl
  | x :: xs, h => by
    unfold forF
    rw [h x (List.mem_cons_self ..), pure_bind, List.find?_cons]
    cases p x with
    | true => rfl
    | false => exact forF_find p g xs fun z hz => h z (List.mem_cons_of_mem _ hz)
theorem asc_find {l : List Int} {a : Int} {p : Int → Bool} (h : l.Pairwise (· < ·)) (ha : a ∈ l) (hp : p a = true) (hl : ∀ x ∈ l, p x = true → a ≤ x) : l.find? p = some a := by
  induction l with
  | nil => cases ha
  | cons x l ih =>
    obtain ⟨h1, h2⟩ := List.pairwise_cons.mp h
    rw [List.find?_cons]
    cases e : p x with
    | true =>
      have := hl x (List.mem_cons_self ..) e
      rcases List.mem_cons.mp ha with rfl | ha
      · rfl
      · have := h1 a ha; omega
    | false =>
      rcases List.mem_cons.mp ha with rfl | ha
      · rw [hp] at e; cases e
      · exact ih h2 ha fun z hz => hl z (List.mem_cons_of_mem _ hz)
theorem due_ok {F : Fo} {T : List Str} {L0 : Fo} {v : Pt → Int} {W : List Pt} {g : Pt} (h : Fds F T) (l0 : LsOk F T L0 v) (hW : Sm' T W) (hg : g ∈ prs T) : Pu (t__law_due F T W g) (· = brk v W g) := by
  unfold t__law_due
  have a := hW.few
  have hl := h.len
  have shJ : ∀ (k k' : Bool) (ps : List Pt), (∀ q ∈ ps, q ∈ prs T) → shp (eSq k (eP2 k' PyData.str PyData.str) ps) = true := fun k k' ps hp => shp_pts h.tg.nm h.tg.up hp
  have sh0 : ∀ (k k' : Bool), shp (eSq k (eP2 k' PyData.str PyData.str) ([] : List Pt)) = true := fun k k' => shJ k k' [] fun q hq => by cases hq
  rw [bind_assoc]
  refine Pu.bind (pu_turns (by omega) h.nn) fun ws tn => ?_
  have hp : ∀ w, ((!decide (w < v g)) && W.all fun q => !!decide (w < v q)) = true ↔ v g ≤ w ∧ w < leW v W := fun w => by
    rw [Bool.and_eq_true, List.all_eq_true]
    obtain ⟨q0, hq0, e0⟩ := leW_mem (v := v) hW.ne
    constructor
    · rintro ⟨c, d⟩
      have := d q0 hq0
      simp at c this
      omega
    · rintro ⟨c, d⟩
      refine ⟨by simp; omega, fun q hq => ?_⟩
      have := leW_le (v := v) q hq
      simp
      omega
  rw [forF_find (fun w => (!decide (w < v g)) && W.all fun q => !!decide (w < v q)) (fun w => some w) ws fun w hw => ?_, pure_bind]
  · unfold brk
    by_cases c : leW v W ≤ v g
    · have e : ws.find? (fun w => (!decide (w < v g)) && W.all fun q => !!decide (w < v q)) = none := by
        rw [List.find?_eq_none]
        intro w hw z
        have := (hp w).mp z
        omega
      rw [e, if_pos c]
      exact Pu.pure rfl
    · obtain ⟨f, hf, e2⟩ := l0.mem g hg
      have e : ws.find? (fun w => (!decide (w < v g)) && W.all fun q => !!decide (w < v q)) = some (v g) := asc_find tn.up (e2 ▸ tn.has f hf) ((hp _).mpr ⟨Int.le_refl _, by omega⟩) fun w hw z => ((hp w).mp z).1
      rw [e, if_neg c]
      exact Pu.pure rfl
  · refine Pu.eq ?_
    rw [met_eq h l0 hg, pure_bind, pure_bind]
    refine Pu.bind (P := (· = ((!decide (w < v g)) && W.all fun q => !!decide (w < v q)))) ?_ fun c e => ?_
    · cases (!decide (w < v g)) with
      | false => exact Pu.pure rfl
      | true =>
        rw [if_pos rfl, Bool.true_and]
        refine Pu.bind (P := (· = W.filter fun q => !decide (w < v q))) ?_ fun y e => ?_
        · rw [pure_bind, compM_of (p := fun q => !decide (w < v q)) (g := fun q => q) W fun q hq => ⟨by rw [met_eq h l0 (hW.sub q hq), pure_bind], rfl⟩, pure_bind, List.map_id']
          exact pu_lim (le_big (by have := List.length_filter_le (fun q => !decide (w < v q)) W; omega)) rfl
        · subst e
          refine Pu.okT (by rw [shJ _ _ _ fun q hq => hW.sub q (List.mem_filter.mp hq).1, sh0]; rfl) ?_
          rw [filter_nil]
    · subst e
      cases ((!decide (w < v g)) && W.all fun q => !!decide (w < v q)) <;> exact Pu.pure rfl
theorem dr_some {T : List Str} {n : Int} (h : TgOk T) (hn : 1 ≤ n) : Dr 10 (((t__law_pick (prs T) n) >>= fun x8 => (okT (sortable ((x8).map (eP2 true PyData.str PyData.str))) (sortE false (eP2 true PyData.str PyData.str) x8))) >>= fun x9 => (pure x9)) (Sm' T) := by
  have ten := prs_ten h.hi
  have ne := List.length_pos_iff.mpr (prs_ne h.lo)
  refine (Dr.bind (b := 0) (Dr.bind (b := 0) (dr_pick (pool := prs T) (by omega) (by omega)) fun xs hx => Pu.dr (?_ : Pu _ (Sm' T))) fun J hJ => Dr.pure hJ).le (by omega)
  have hp := sortE_perm (rev := false) (e := eP2 true PyData.str PyData.str) xs
  have := hx.le
  have hlen := hp.length_eq
  have hl := hx.len
  refine Pu.okT (sortable_pt xs) ⟨fun q hq => hx.sub q (hp.mem_iff.mp hq), by omega, List.length_pos_iff.mp ?_⟩
  rw [hlen]
  split at hl <;> omega
theorem simple_brk (r : Option Int) (b : Bool) : simple 7 (eSq false eId [eO PyData.int r, eO PyData.int r, eO PyData.int r, .bool b, .bool b, .bool b]) = true := by
  cases r <;> cases b <;> rfl
theorem same_brk (r : Option Int) (b : Bool) (S : Sto) : (f__law_same 8) [(vD (eSq false eId) [eO PyData.int r, eO PyData.int r, eO PyData.int r, .bool b, .bool b, .bool b]), (vD (eSq false eId) [eO PyData.int r, eO PyData.int r, eO PyData.int r, .bool b, .bool b, .bool b])] S = .ok (vD PyData.bool true) S := by
  rw [same_eq]
  exact same_ok S 7 _ (simple_brk r b)
theorem dr_case {F : Fo} {T : List Str} (h : Fds F T) : Dr 72 (t__law_case_right T F) (· = true) := by
  unfold t__law_case_right
  have hl := h.len
  have ten := prs_ten h.tg.hi
  refine Dr.pu (P := (· = F)) (Pu.believe (lis_fords (by omega)) rfl) fun soft e => ?_
  subst e
  refine Dr.pu (pu_pairs h.tg.hi) fun every e => ?_
  subst e
  refine Dr.le (Dr.bind (a := 72) (b := 0) (P := fun o => ∃ s', o = Fl.nx s' ∧ True) (Dr.pu (pu_range (j := 6) (by decide) (by decide)) fun xs e => ?_) fun o ⟨s, e, _⟩ => ?_) (Nat.le_refl _)
  · have xl : xs.length * 12 = 72 := by rw [e, rangeI_len]; rfl
    refine Dr.le (Dr.forF (a := 12) (fun _ => True) xs () (fun y s _ => ?_) trivial) (by omega)
    refine Dr.bind (a := 11) (b := 1) (P := Sm' T) ?_ fun W hW => ?_
    · have := Dr.bind (a := 1) (b := 10) (dr_take (low := 3) (by decide) (by decide)) fun r hr => dr_some (n := 1 + r) h.tg (by omega)
      simp only [bind_assoc, pure_bind] at this ⊢
      exact this
    refine Dr.bind (a := 1) (b := 0) (dr_of (prs_ne h.tg.lo) (by omega)) fun g hg => Pu.dr ?_
    obtain ⟨L, eL, v, l0⟩ := pu_lasts h true true true
    have a := hW.few
    have shP : ∀ (k k' : Bool), shp (eSq k (eP2 k' PyData.str PyData.str) W) = true := fun k k' => shp_pts h.tg.nm h.tg.up hW.sub
    refine Pu.bind (due_ok h l0 hW hg) fun due e => ?_
    subst e
    rw [believe_ok (lis_pts (k1 := true) (k2 := true) (by omega : W.length ≤ 900))]
    simp only [pure_bind]
    rw [brk_ok h l0 hW hg true true true true true, brk_ok h l0 hW hg false false false false false, keep_ok h l0 hW hg true true true true true, keep_ok h l0 hW hg false false false false false]
    simp only [pure_bind]
    have hb : decide (leW v W ≤ v g) = (brk v W g).isNone := by
      unfold brk
      by_cases c : leW v W ≤ v g
      · rw [decide_eq_true c, if_pos c]; rfl
      · rw [decide_eq_false c, if_neg c]; rfl
    rw [hb]
    generalize brk v W g = r
    generalize r.isNone = b
    rw [show decide (0 ≤ (3 : Int) ∧ (3 : Int) ≤ 1000 ∧ ([r] : List (Option Int)).length ≤ 1000) = true from rfl, show decide (0 ≤ (3 : Int) ∧ (3 : Int) ≤ 1000 ∧ ([b] : List Bool).length ≤ 1000) = true from rfl, okT_true, okT_true]
    simp only [pure_bind]
    rw [show decide (((([r, r, r] : List (Option Int))).map (eO PyData.int)).length + ((([b, b, b] : List Bool)).map PyData.bool).length ≤ big) = true from decide_eq_true (by show 3 + 3 ≤ 1000000; omega), okT_true, pure_bind]
    rw [show (List.replicate ((3 : Int)).toNat ([r] : List (Option Int))).flatten = [r, r, r] from rfl, show (List.replicate ((3 : Int)).toNat ([b] : List Bool)).flatten = [b, b, b] from rfl]
    rw [show decide (((([r, r, r] : List (Option Int))).map (eO PyData.int)).length + ((([b, b, b] : List Bool)).map PyData.bool).length ≤ big) = true from decide_eq_true (by show 3 + 3 ≤ 1000000; omega), okT_true, pure_bind]
    rw [show ((([r, r, r] : List (Option Int))).map (eO PyData.int)) ++ ((([b, b, b] : List Bool)).map PyData.bool) = [eO PyData.int r, eO PyData.int r, eO PyData.int r, .bool b, .bool b, .bool b] from rfl, believe_ok (same_brk r b)]
    simp only [pure_bind]
    rw [shP, show (true && true) = true from rfl, okT_true]
    simp only [decide_true, Bool.not_true, pure_bind]
    exact Pu.pure ⟨(), rfl, trivial⟩
  · subst e
    refine Pu.dr ?_
    show Pu (_ >>= _) _
    refine Pu.bind (P := (· = soft)) (Pu.believe (lis_fords (by omega)) rfl) fun y e => ?_
    subst e
    have sh : shp ((eSq false (eP2 false (eP2 false PyData.str PyData.str) PyData.int)) y) = true := (Sh.sq (n := 2) fun f hf => by
      have := h.foOk.ends f hf
      exact Sh.p2 (n := 1) (Sh.p2 (n := 0) (Sh.s (h.tg.nm _ this.1)) (Sh.s (h.tg.nm _ this.2))) Sh.i).shp (by decide)
    exact Pu.okT (by rw [sh]; rfl) (decide_eq_true rfl)
theorem dr_right : Dr 636 t__law_right (· = true) := by
  unfold t__law_right
  refine Dr.le (Dr.bind (a := 636) (b := 0) (P := fun o => ∃ s', o = Fl.nx s' ∧ True) (Dr.pu (pu_range (j := 6) (by decide) (by decide)) fun xs e => ?_) fun o ⟨s, e, _⟩ => ?_) (Nat.le_refl _)
  · have xl : xs.length * 106 = 636 := by rw [e, rangeI_len]; rfl
    refine Dr.le (Dr.forF (a := 106) (fun _ => True) xs () (fun y s _ => ?_) trivial) (by omega)
    refine Dr.bind (a := 13) (b := 93) (P := TgOk) ?_ fun T hT => ?_
    · have := Dr.bind (a := 1) (b := 12) (dr_take (low := 3) (by decide) (by decide)) fun r hr => (dr_isles (n := 3 + r) (by omega) (by omega)).mono fun T hT => hT.1
      simp only [bind_assoc, pure_bind] at this ⊢
      exact this
    have := Dr.bind (a := 21) (b := 72) (dr_fords hT) fun F hF => dr_case hF
    simp only [bind_assoc, pure_bind] at this ⊢
    rw [← bind_assoc]
    refine Dr.bind (a := 93) (b := 0) this fun c e => ?_
    subst e
    exact Dr.pure ⟨(), rfl, trivial⟩
  · subst e
    exact Dr.pure rfl
theorem right_ok {n : Nat} {S : Sto} (u : UrnOk (n + 636) S) : ∃ S', f__law_right [.c 0] S = .ok (.d (.bool true)) S' ∧ UrnOk n S' := by
  obtain ⟨r, S', e, rfl, u'⟩ := dr_right n S u
  have := ty__law_right S
  rw [e] at this
  exact ⟨S', this, u'⟩
end Sm

set_option maxHeartbeats 4000000
namespace Lf
open PySem PySem.Spec PyProof.Rows L2

/-! ## the source of draws, the numbers -/
def Urn (n : Nat) (u : Addr) (H : Hp) : Prop := ∃ a b c : Int, H u = some (.lst [.int a, .int b, .int c]) ∧ 0 ≤ a ∧ 0 ≤ b ∧ b < 2 ^ 62 ∧ 0 ≤ c ∧ c + n ≤ 1000000
def spBox (K : PySem.W.Frag) : Sp := fun vs H Q _ => ∃ (a : Addr) (ns : List Int) (k : Int), vs = [.ref a, .int k] ∧ SqL K H a (ns.map V.int) ∧ 0 ≤ k ∧ k ≤ 100 ∧
  ∀ p H', Same H H' → H p = none → Urn 1000000 p H' → Q (.ref p) H'
def spCells (K : PySem.W.Frag) : Sp := fun vs H Q _ => ∃ (a : Addr) (ns : List Int), vs = [.ref a, .int 3] ∧ SqL K H a (ns.map V.int) ∧ ns.length ≤ 63 ∧
  ∀ cs p H', Same H H' → H' p = some (.lst (List.map V.int cs)) → 1 ≤ cs.length → cs.length ≤ 3 → Q (.ref p) H'
theorem cutV_to (xs : List V) (k : Nat) : cutV xs none (some (k : Int)) = xs.take k := by
  unfold cutV
  rw [HT.sIx_nat, HT.sIx_none, List.drop_zero, Nat.sub_zero]
  by_cases h : k ≤ xs.length
  · rw [Nat.min_eq_left h]
  · rw [Nat.min_eq_right (by omega), List.take_length, List.take_of_length_le (by omega)]
theorem cutV_mid (xs : List V) (j k : Nat) (h : j ≤ xs.length) : cutV xs (some (j : Int)) (some (k : Int)) = (xs.drop j).take (k - j) := by
  unfold cutV
  rw [HT.sIx_nat, HT.sIx_nat, Nat.min_eq_left h]
  by_cases hk : k ≤ xs.length
  · rw [Nat.min_eq_left hk]
  · rw [Nat.min_eq_right (by omega), List.take_of_length_le, List.take_of_length_le] <;> rw [List.length_drop] <;> omega
theorem int_at {ns : List Int} {i : Int} (h0 : 0 ≤ i) (h1 : i < ns.length) : ∃ c : Int, atI (ns.map V.int) i = some (.int c) := by
  have hi : i.toNat < ns.length := by omega
  exact ⟨ns[i.toNat], at_of (j := i.toNat) (by omega) (by rw [List.getElem?_map]; simp [hi])⟩
theorem b01 (k : Bool) : -(2 ^ 64) < (if k = true then (1 : Int) else 0) ∧ (if k = true then (1 : Int) else 0) < 2 ^ 64 := by cases k <;> decide
theorem b0 (k : Bool) : 0 ≤ (if k = true then (1 : Int) else 0) := by cases k <;> decide
section
variable {P : Program} {w : World} {K : PySem.W.Frag} {mg : Str → Option Value} {base : Heap} {f : Addr} {fd : FuncData}
theorem scBox : FnScope ["_law_script", "_law_k", "_law_cell"] ["_law_script", "_law_k"] (defScope (Sm.topS 23)) := ⟨rfl, rfl, rfl, by decide +kernel, rfl, by decide +kernel, by decide +kernel⟩
theorem ok_box (B : Sm.Bn mg) (hab : mg "abs" = none) (F : Fun K "_law_box" "_law_box" (Sm.topS 23) f fd) : FnOk P w K mg base (L2.CX P w) 1 f fd ["_law_script", "_law_k"] (spBox K) := by
  refine F.okX scBox (fun vs H Q E h => ?_) (fun cdv A outer s H vs Q E hr h => ?_)
  · obtain ⟨a, ns, k, rfl, _⟩ := h
    rfl
  obtain ⟨a, ns, k, rfl, hS, k0, k1, q⟩ := h
  refine ⟨_, pss_cons (ps_set (i := 2) scBox.nd rfl (Or.inl rfl) (pe_ifExp (pt_cmpR op_lt (pv 1) (pe_callB call_len_seq (by rfl) B.len PySem.boot_len (pa_cons (pv 0) pa_nil)) (nomark _)) (pe_ix ix_list (pv 0) (pv 1) (fun _ _ => rfl)) pe_int))
    (pss_one (ps_ret (pe_lst (pa_cons (pe_op op_mul (pe_callB call_abs (by rfl) hab (by decide +kernel) (pa_cons (pv 2) pa_nil)) (pe_callTy call_int1 (by rfl) B.int boot_int (pa_cons (pe_cmpR op_ge (pe_callB call_abs (by rfl) hab (by decide +kernel) (pa_cons (pv 2) pa_nil)) (pe_op op_pow pe_int pe_int) (nomark _)) pa_nil)))
      (pa_cons (pe_op op_add (pe_op op_add (pe_op op_mod (pe_callTy call_int1 (by rfl) B.int boot_int (pa_cons (pv 2) pa_nil)) pe_int) (pe_op op_mul pe_int (pv 1))) pe_int)
      (pa_cons pe_int pa_nil)))))), ?_⟩
  have main : ∀ c : Int, (tRet (tLst (tCons (tOp (rI CMul fun i j => V.int (i * j)) (tCB (fun xs H Q => ∃ i, xs = [V.int i] ∧ Q (.int (if i < 0 then -i else i)) H) (tCons (tVar 2) tNil))
      (tCB (fun xs H Q => (∃ i, xs = [V.int i] ∧ Q (.int i) H) ∨ ∃ k, xs = [V.bl k] ∧ Q (.int (if k then 1 else 0)) H) (tCons (tOp (rI0 fun i j => .bl (decide (j ≤ i))) (tCB (fun xs H Q => ∃ i, xs = [V.int i] ∧ Q (.int (if i < 0 then -i else i)) H) (tCons (tVar 2) tNil)) (tOp (rI CPow fun i j => .int (i ^ j.toNat)) (tC (.int 10)) (tC (.int 18)))) tNil)))
      (tCons (tOp (rI0 fun i j => .int (i + j)) (tOp (rI0 fun i j => .int (i + j)) (tOp (rI (fun _ j => 0 < j) fun i j => .int (i % j)) (tCB (fun xs H Q => (∃ i, xs = [V.int i] ∧ Q (.int i) H) ∨ ∃ k, xs = [V.bl k] ∧ Q (.int (if k then 1 else 0)) H) (tCons (tVar 2) tNil)) (tC (.int 2305843009213693951))) (tOp (rI CMul fun i j => V.int (i * j)) (tC (.int 39373)) (tVar 1))) (tC (.int 142372)))
      (tCons (tC (.int 0)) tNil))))) { nx := fun _ H' => Q .non H', rt := Q } [some (.ref a), some (.int k), some (.int c)] H := by
    intro c
    have hab : 0 ≤ (if c < 0 then -c else c) := by split <;> omega
    refine ⟨_, rfl, c, rfl, _, rfl, c, rfl, _, _, rfl, rfl, ⟨by decide, by decide, by decide⟩, _, _, rfl, rfl, .inr ⟨_, rfl, _, _, rfl, rfl, .inr (b01 _), ?_⟩⟩
    refine ⟨_, rfl, .inl ⟨_, rfl, _, _, rfl, rfl, (show (0 : Int) < 2305843009213693951 by decide), ?_⟩⟩
    have m0 : 0 ≤ c % 2305843009213693951 := Int.emod_nonneg _ (by decide)
    have m1 : c % 2305843009213693951 < 2305843009213693951 := Int.emod_lt_of_pos _ (by decide)
    refine ⟨_, rfl, _, _, rfl, rfl, .inl ⟨by decide, by decide⟩, _, _, rfl, rfl, _, _, rfl, rfl, (by show 3 ≤ sizeLine; decide), fun p np => ?_⟩
    refine q p _ (same_new np _) np ⟨_, _, _, upd_same, ?_, by omega, by omega, by decide, by decide⟩
    exact Int.mul_nonneg hab (b0 _)
  refine ⟨_, rfl, _, rfl, _, _, rfl, .inl hS, _, _, rfl, rfl, _, rfl, ?_⟩
  refine ite2 (fun z => ?_) (fun z => ?_)
  · have z' : k < (((ns.map V.int).length : Nat) : Int) := of_decide_eq_true z
    rw [List.length_map] at z'
    obtain ⟨c, hc⟩ := int_at k0 z'
    exact ⟨_, rfl, _, rfl, a, _, _, _, rfl, rfl, hS, hc, main c⟩
  · exact main 0

theorem scCells : FnScope ["_law_script", "_law_top", "_law_cells_here", "_law_k", "_law_cell", "_law_at_so"] ["_law_script", "_law_top"] (defScope (Sm.topS 25)) := ⟨rfl, rfl, rfl, by decide +kernel, rfl, by decide +kernel, by decide +kernel⟩
theorem ok_cells (B : Sm.Bn mg) (hen : mg "enumerate" = none) (F : Fun K "_law_cells" "_law_cells" (Sm.topS 25) f fd) : FnOk P w K mg base (L2.CX P w) 1 f fd ["_law_script", "_law_top"] (spCells K) := by
  refine F.okX scCells (fun vs H Q E h => ?_) (fun cdv A outer s H vs Q E hr h => ?_)
  · obtain ⟨a, ns, rfl, _⟩ := h
    rfl
  obtain ⟨a, ns, rfl, hS, hl, q⟩ := h
  refine ⟨_, pss_cons (ps_set (i := 2) scCells.nd rfl (Or.inl rfl) (pe_orT (pe_callTy call_list_of (by rfl) B.list (by decide +kernel) (pa_cons (pe_slice sl_list (pv 0) po_none (po_some (pv 1))) pa_nil)) (pe_one (pe_lst (pa_cons pe_int pa_nil)))))
    (pss_cons (ps_for (passes_of rfl) rfl (pi_enum (by rfl) hen (pa_cons (pe_slice sl_list (pv 0) (po_some (pv 1)) (po_some pe_int)) pa_nil))
      (pg_tup rfl (pgs_cons (pg_name (i := 3) scCells.nd rfl (Or.inl rfl)) (pgs_cons (pg_name (i := 4) scCells.nd rfl (Or.inl rfl)) pgs_nil)))
      (pss_cons (ps_set (i := 5) scCells.nd rfl (Or.inl rfl) (pe_op op_mod (pe_callTy call_int1 (by rfl) B.int boot_int (pa_cons (pv 3) pa_nil)) (pv 1)))
      (pss_one (ps_asg (pe_op op_add (pe_ix ix_list (pv 2) (pv 5) (fun _ _ => rfl)) (pe_op op_mul (pv 4) (pe_op op_add (pv 3) pe_int))) (pg_sub (pv 2) (pv 5) set_list)))))
    (pss_one (ps_ret (pv 2)))), ?_⟩
  have main : ∀ (c : Addr) (cs : List Int) (H1 : Hp), Same H H1 → H c = none → H1 c = some (.lst (cs.map V.int)) → 1 ≤ cs.length → cs.length ≤ 3 → (3 < ns.length → cs.length = 3) →
      (tSeq (tFor (iEnum K (tCons (tSl (rSlL K) (tVar 0) (tPart (tVar 1)) (tPart (tC (.int 63)))) tNil)) (gTup K 2 (gCons (gName 3) (gCons (gName 4) gNil)))
        (tSeq (tAsg (tOp (rI (fun _ j => 0 < j) fun i j => .int (i % j)) (tCB (fun xs H Q => (∃ i, xs = [V.int i] ∧ Q (.int i) H) ∨ ∃ k, xs = [V.bl k] ∧ Q (.int (if k then 1 else 0)) H) (tCons (tVar 3) tNil)) (tVar 1)) (gName 5))
          (tAsg (tOp (rI0 fun i j => .int (i + j)) (tOp (rIxL K) (tVar 2) (tVar 5)) (tOp (rI CMul fun i j => V.int (i * j)) (tVar 4) (tOp (rI0 fun i j => .int (i + j)) (tVar 3) (tC (.int 2))))) (gSub (tVar 2) (tVar 5) rSetL))))
        (tRet (tVar 2))) { nx := fun _ H' => Q .non H', rt := Q } [some (.ref a), some (.int 3), some (.ref c), none, none, none] H1 := by
    intro c cs H1 s1 nc hc l1 l3 l33
    have hS1 : SqL K H1 a (ns.map V.int) := s1.seq hS
    refine ⟨_, rfl, _, rfl, 3, rfl, 63, rfl, a, _, rfl, hS1, fun p np => ?_⟩
    have ecut : cutV (ns.map V.int) (some (3 : Int)) (some (63 : Int)) = ((ns.drop 3).take 60).map V.int := by
      by_cases h3 : 3 ≤ ns.length
      · have h := cutV_mid (ns.map V.int) 3 63 (by rw [List.length_map]; exact h3)
        rw [show ((3 : Nat) : Int) = (3 : Int) from rfl, show ((63 : Nat) : Int) = (63 : Int) from rfl] at h
        rw [h, ← List.map_drop, ← List.map_take]
      · have h1 : ns.drop 3 = [] := List.drop_eq_nil_of_le (by omega)
        rw [h1]
        unfold cutV
        rw [show HT.sIx (ns.map V.int).length 0 (some (3 : Int)) = min 3 (ns.map V.int).length from HT.sIx_nat _ _ 3, List.length_map, Nat.min_eq_right (by omega), List.drop_eq_nil_of_le (by rw [List.length_map]; exact Nat.le_refl _), List.take_nil]
        rfl
    rw [ecut]
    have s2 := same_new np (.lst (((ns.drop 3).take 60).map V.int))
    have e2 : upd H1 p (.lst (((ns.drop 3).take 60).map V.int)) p = some (.lst (((ns.drop 3).take 60).map V.int)) := upd_same
    have hc2 := s2 _ _ hc
    have hpc : p ≠ c := fun e => by
      rw [e] at np
      rw [hc] at np
      cases np
    generalize upd H1 p (.lst (((ns.drop 3).take 60).map V.int)) = H2 at s2 e2 hc2 ⊢
    generalize hms : (ns.drop 3).take 60 = ms at e2
    have hml : ms.length ≤ 60 ∧ (0 < ms.length → cs.length = 3) := by
      rw [← hms, List.length_take, List.length_drop]
      exact ⟨by omega, fun h => l33 (by omega)⟩
    refine ⟨p, _, rfl, .of e2, ?_⟩
    refine for_it (walk_enum (K := K) (a := p) (xs := ms.map V.int)) (fun i σ H3 => ∃ t3 t4 t5 zs, σ = [some (.ref a), some (.int 3), some (.ref c), t3, t4, t5] ∧ Same H H3 ∧ H3 p = some (.lst (ms.map V.int)) ∧ H3 c = some (.lst (List.map V.int zs)) ∧ zs.length = cs.length)
      ⟨none, none, none, cs, rfl, s1.trans s2, e2, hc2, rfl⟩ (fun i σ H3 _ hP => ?_) (fun i x σ H3 H4 hi hP hY => ?_) (fun σ H3 hP => ?_)
    · obtain ⟨t3, t4, t5, zs, rfl, _, hp, _⟩ := hP
      exact .of hp
    · obtain ⟨T, x1, x2, rfl, nT, rfl, e1, e2⟩ := hY
      obtain ⟨t3, t4, t5, zs, rfl, sm, hp, hc3, hz⟩ := hP
      have ex1 : x1 = .int (i : Nat) := (Option.some.inj e1).symm
      subst ex1
      obtain ⟨y, hy⟩ : ∃ y : Int, x2 = .int y := by
        have e2' : (ms.map V.int)[i]? = some x2 := e2
        rw [List.getElem?_map] at e2'
        cases e : ms[i]? with
        | none =>
          rw [e] at e2'
          cases e2'
        | some y =>
          rw [e] at e2'
          exact ⟨y, (Option.some.inj e2').symm⟩
      subst hy
      rw [List.length_map] at hi
      have h3 : cs.length = 3 := hml.2 (by omega)
      have s5 := same_new nT (.tup [.int (i : Nat), .int y])
      have hc5 := s5 _ _ hc3
      have hp5 := s5 _ _ hp
      refine ⟨T, _, rfl, .of upd_same, rfl, _, _, rfl, _, _, rfl, rfl, ?_⟩
      generalize upd H3 T (.tup [.int (i : Nat), .int y]) = H5 at s5 hc5 hp5 ⊢
      refine ⟨_, rfl, .inl ⟨_, rfl, _, rfl, _, _, rfl, rfl, (show (0 : Int) < 3 by decide), ?_⟩⟩
      have m0 : 0 ≤ (i : Int) % 3 := Int.emod_nonneg _ (by decide)
      have m1 : (i : Int) % 3 < 3 := Int.emod_lt_of_pos _ (by decide)
      obtain ⟨z, hz1⟩ := int_at (ns := zs) m0 (by omega)
      refine ⟨_, rfl, _, rfl, c, _, _, _, rfl, rfl, .of hc5, hz1, _, rfl, _, rfl, _, _, rfl, rfl, _, _, rfl, rfl, .inr ⟨by omega, by omega⟩, _, _, rfl, rfl, _, rfl, _, rfl, c, _, _, ((i : Int) % 3).toNat, rfl, rfl, hc5, ?_, ?_⟩
      · unfold ixN
        rw [if_pos m0, if_pos (by rw [List.length_map]; omega)]
      refine ⟨_, _, _, zs.set ((i : Int) % 3).toNat (z + y * ((i : Int) + 2)), rfl, same_upd (sm.trans s5) nc _, ?_, ?_, ?_⟩
      · rw [upd_ne hpc]
        exact hp5
      · rw [upd_same, List.map_set]
      · rw [List.length_set]
        exact hz
    · obtain ⟨t3, t4, t5, zs, rfl, sm, hp, hc3, hz⟩ := hP
      exact ⟨_, rfl, q zs c H3 sm hc3 (by omega) (by omega)⟩
  refine ⟨_, rfl, _, rfl, 3, rfl, a, _, rfl, hS, fun p np => ?_⟩
  have ecut : cutV (ns.map V.int) none (some (3 : Int)) = (ns.take 3).map V.int := by
    have h := cutV_to (ns.map V.int) 3
    rw [show ((3 : Nat) : Int) = (3 : Int) from rfl] at h
    rw [h, List.map_take]
  rw [ecut]
  have s1 := same_new np (.lst ((ns.take 3).map V.int))
  refine ⟨p, _, rfl, .inl (.of upd_same), fun c nc => ?_⟩
  have s2 := s1.trans (same_new nc (.lst ((ns.take 3).map V.int)))
  refine ⟨!((ns.take 3).map V.int).isEmpty, .inl ⟨_, .of upd_same, rfl⟩, ?_⟩
  have nc0 : H c = none := s1.free nc
  by_cases he : ns = []
  · subst he
    refine iteF ?_
    refine ⟨by show 1 ≤ sizeLine; decide, fun g ng => ?_⟩
    exact main g [0] _ (s2.trans (same_new ng _)) (s2.free ng) upd_same (by decide) (by decide) (fun h => absurd h (by simp))
  · have hne : (!((ns.take 3).map V.int).isEmpty) = true := by
      cases ns with
      | nil => exact absurd rfl he
      | cons _ _ => rfl
    rw [hne]
    refine iteT ?_
    refine main c (ns.take 3) _ s2 nc0 upd_same ?_ ?_ ?_
    · rw [List.length_take]
      have : 0 < ns.length := List.length_pos_iff.mpr he
      omega
    · rw [List.length_take]
      omega
    · rw [List.length_take]
      omega
end
end Lf

set_option maxHeartbeats 4000000
namespace Lf
open PySem PySem.Spec PyProof.Rows L2

/-! ## the whole law -/
theorem yes {σ : L2.St} {H : Hp} {Q : Bool → Hp → Prop} (h : Q true H) : tYes σ H Q := h
/-- a def of the text, by its promise -/
def HasC (P : Program) (w : World) (K : PySem.W.Frag) (mg : Str → Option Value) (base : Heap) (k : Nat) (x : Str) (ps : List Str) (sp : Sp) : Prop :=
  ∃ (f : Addr) (fd : FuncData), FnOk P w K mg base (L2.CX P w) k f fd ps sp ∧ mg x = some (.ref f) ∧ PySem.W.keepIn K (.ref f) = true ∧ Binds K fd ps []
theorem pe_hasC {X : Cx} {W : WX} {k : Nat} {x : Str} {ps : List Str} {sp : Sp} {e : Expr} {es : List Expr} {t : TA} {p pos : Pos} (G : HasC X.prog X.w X.K X.mg X.base k x ps sp) (tk : Takes X W) (hr : Room k X.A) (ha : PA X (e :: es) t) (hg : Gl X x := by rfl) (hdb : (x == ("__debug__" : Str)) = false := by decide)
    (he : starEach (e :: es) X.env = (false, eval e X.env) :: starEach es X.env := by rfl) (hpl : (backTo pos (starEach es X.env)).any (·.1) = false := by rfl) :
    PE X (.Call (.Name x p) (e :: es) [] pos) (tCallS sp (WE W) t) := by
  obtain ⟨f, fd, ok, m, kp, b⟩ := G
  exact pe_callS ok hr hg m kp b (fun σ => passAt tk σ) ha hdb he hpl
theorem pe_hasG0 {X : Cx} {W : WX} {cm : Sm.CM} {k : Nat} {x : Str} {F : Sm.Fn} {p pos : Pos} (G : Sm.GF X.prog X.w X.K X.mg X.base cm k x [] F) (tk : Takes X W) (hr : Room k X.A) (hg : Gl X x := by rfl) (hdb : (x == ("__debug__" : Str)) = false := by decide) :
    PE X (.Call (.Name x p) [] [] pos) (tCallS (Sm.spF cm 0 F) (WE W) tNil) := by
  obtain ⟨f, fd, ok, m, kp, b⟩ := G
  refine ⟨fun pins s σ H Q I h => ?_⟩
  refine wpAny_Call_Name_kw (ld_glob I hg m ?_ hdb)
  exact PySem.W.callWith_K0 I.kIn kp (run_fnS (us := []) (vs := []) (E := WE W) ok hr b (passAt tk σ) I .nil h)
theorem Sm.hand_run {cm : Sm.CM} {H : Hp} {Q : VK} {E : XK} {F : Sm.Fn} (he : F [] [] = .ok (.d (.bool true)) []) (q : ∀ H', Same H H' → Q (.bl true) H') : Sm.spF cm 0 F [] H Q E := by
  have wd : Sm.Wd cm [] [] H [] H := {
    sub := fun _ _ h => h
    frs := fun p hp => by cases hp
    ndF := List.nodup_nil
    cel := fun n ds hd => by cases hd
    out := fun x hx => by cases hx
    ndA := List.nodup_nil
    len := rfl }
  refine ⟨[], [], H, [], [], rfl, wd, .nil, ?_⟩
  rw [he]
  intro D' H' wd' s' v hv
  cases hv
  exact q H' fun x o hx => wd'.sub _ _ (s' _ _ hx)
theorem Sm.right_run {K : PySem.W.Frag} {cm : Sm.CM} {u : Addr} {H4 H5 : Hp} {Q : VK} {E : XK} (s5 : Same H4 H5) (nu : H4 u = none) (hu : Urn 1000000 u H5) (q : ∀ H6, Same H4 H6 → Q (.bl true) H6) : Sm.spF cm 1 Sm.f__law_right [.ref u] H5 Q E := by
  obtain ⟨a, b, c, h1, h2, h3, h4, h5, h6⟩ := hu
  have uo : Sm.UrnOk (999364 + 636) [[.int a, .int b, .int c]] := ⟨a, b, c, rfl, h2, h3, h4, h5, h6⟩
  obtain ⟨S', e, _⟩ := Sm.right_ok uo
  have wd : Sm.Wd cm [u] [[.int a, .int b, .int c]] (hide u H5) [] H5 := {
    sub := hide_sub
    frs := fun p hp => by cases hp
    ndF := List.nodup_nil
    cel := fun n ds hd => by
      match n, hd with
      | 0, hd =>
        cases hd
        exact ⟨u, _, rfl, h1, .cons (.int a) (.cons (.int b) (.cons (.int c) .nil))⟩
    out := fun x hx => by
      have : x = u := by simpa using hx
      rw [this]
      unfold hide
      rw [if_pos rfl]
    ndA := List.nodup_cons.mpr ⟨by simp, List.nodup_nil⟩
    len := rfl }
  refine ⟨[u], _, _, [], [.c 0], rfl, wd, .cons ⟨u, rfl, rfl⟩ .nil, ?_⟩
  rw [e]
  intro D' H' wd' s' v hv
  cases hv
  exact q H' fun x o hx => wd'.sub _ _ (s' _ _ (hide_in (ne_of_none hx nu) (s5 _ _ hx)))
def spLaw (K : PySem.W.Frag) : Sp := fun vs H Q _ => ∃ (a : Addr) (ns : List Int), vs = [.ref a] ∧ SqL K H a (ns.map V.int) ∧ ns.length ≤ 63 ∧ ∀ H', Q (.bl true) H'
section
variable {P : Program} {w : World} {K : PySem.W.Frag} {mg : Str → Option Value} {base : Heap} {f : Addr} {fd : FuncData} {cm : Sm.CM}
theorem scLaw : FnScope ["_law_script", "_law_cells_here", "_law_k"] ["_law_script"] (defScope (Sm.topS 40)) := ⟨rfl, rfl, rfl, by decide +kernel, rfl, by decide +kernel, by decide +kernel⟩
theorem ok_law (B : Sm.Bn mg) (gC : HasC P w K mg base 1 "_law_cells" ["_law_script", "_law_top"] (spCells K)) (gX : HasC P w K mg base 1 "_law_box" ["_law_script", "_law_k"] (spBox K))
    (gR : Sm.GF P w K mg base cm 13 "_law_right" ["_law_urn"] Sm.f__law_right) (gH : Sm.GF P w K mg base cm 12 "_law_by_hand_right" [] Sm.f__law_by_hand_right) (F : Fun K "law" "law" (Sm.topS 40) f fd) : FnOk P w K mg base (L2.CX P w) 14 f fd ["_law_script"] (spLaw K) := by
  refine F.okX scLaw (fun vs H Q E h => ?_) (fun cdv A outer s H vs Q E hr h => ?_)
  · obtain ⟨a, ns, rfl, _⟩ := h
    rfl
  obtain ⟨a, ns, rfl, hS, hl, q⟩ := h
  refine ⟨_, pss_cons (ps_if (pt_not (pt_val (pe_hasG0 gH takes0 (hr.mono (by decide))))) (pss_one (ps_ret pe_bl)) pss_nil) (pss_cons (ps_set (i := 1) scLaw.nd rfl (Or.inr rfl) (pe_hasC gC (takes_of rfl rfl rfl rfl) (hr.mono (by decide)) (pa_cons (pv 0) (pa_cons pe_int pa_nil))))
    (pss_one (ps_ret (pe_callB (cr_all rfl) (by rfl) B.all (by decide +kernel) (pa_cons
      (pe_lc (own := [("_law_k", 2)]) (g := gName 2) rfl scLaw.nd (pi_range1 (by rfl) B.range (pa_cons (pe_callB call_len_seq (by rfl) B.len PySem.boot_len (pa_cons (pv 1) pa_nil)) pa_nil))
        (blkOk_by (own := [("_law_k", 2)]) (N := ["_law_script", "_law_cells_here", "_law_k"]) (sc := defScope (Sm.topS 40)) (by decide +kernel))
        (fun _ _ _ _ _ => pg_name (i := 2) scLaw.nd rfl (Or.inl rfl)) (fun _ _ _ _ _ => pts_nil)
        (fun _ _ _ _ _ => pe_hasC gR takes0 hr (pa_cons (pe_hasC gX takes0 (hr.mono (by decide)) (pa_cons (pv 1) (pa_cons (pv 2) pa_nil))) pa_nil))) pa_nil))))), ?_⟩
  refine Sm.hand_run (Sm.hand72 []) fun H1 s1 => ⟨true, rfl, ?_⟩
  have hS : SqL K H1 a (ns.map V.int) := hS.elim (fun h => .inl (h.elim (fun h => .inl (s1 _ _ h)) fun ⟨o, h⟩ => .inr ⟨o, s1 _ _ h⟩)) .inr
  refine Eq.mpr (if_neg (by decide : ¬ (!true) = true)) ?_
  refine ⟨_, rfl, a, ns, rfl, hS, hl, fun cs c H2 s2 hc c1 c2 => ?_⟩
  refine ⟨_, rfl, _, _, rfl, .inl (.of hc), _, rfl, by rw [List.length_map]; omega, by rw [List.length_map]; omega, fun D nD => ?_⟩
  rw [List.length_map]
  refine lc_it (walk_range (lo := 0) (n := (cs.length : Int).toNat)) (fun i H3 => Same H2 H3 ∧ H3 D = some (.lst ((List.replicate i true).map V.bl))) ⟨same_new nD _, upd_same⟩ (fun _ _ _ _ => trivial) (fun i x H3 H4 hi hP hY => ?_) (fun H3 hP => ?_)
  · obtain ⟨rfl, rfl⟩ := hY
    obtain ⟨sm, hD⟩ := hP
    refine ⟨rfl, yes ?_⟩
    rw [if_pos rfl]
    refine ⟨_, rfl, _, rfl, c, cs, _, rfl, .of (sm _ _ hc), by omega, by omega, fun u H5 s5 nu hu => ?_⟩
    refine Sm.right_run (K := K) s5 nu hu fun H6 s6 => ?_
    refine ⟨_, s6 _ _ hD, ?_, same_upd (sm.trans s6) nD _, ?_⟩
    · rw [List.length_map, List.length_replicate]
      exact small1000 (by omega)
    · rw [upd_same, List.replicate_succ', List.map_append]
      rfl
  · obtain ⟨sm, hD⟩ := hP
    refine ⟨D, _, rfl, .of hD, ?_⟩
    rw [show (List.replicate (cs.length : Int).toNat true).all id = true by simp]
    exact q H3
end
end Lf

set_option maxHeartbeats 4000000
namespace Lf
open PySem PySem.Spec PyProof.Rows L2

/-! ## the program's top -/
/-- a def of the text as the top leaves it -/
def DefAt (K : PySem.W.Frag) (mg : Str → Option Value) (x : Str) (st : Stmt) : Prop := ∃ (f : Addr) (fd : FuncData), Fun K x x st f fd ∧ mg x = some (.ref f)
theorem def_mk {K : PySem.W.Frag} {h : Heap} {mg : Str → Option Value} (X : K.In h) (G : h.Ns mainGlobals mg) {x : Str} {st : Stmt} {f : Addr} {od an : Option Addr} {sl : Array (Option Value)} {oc kV dc pm cd ct : Value}
    (a : PySem.W.nsIn K mainGlobals x = some (some (.ref f))) (l : K.lookup f = some ⟨oc, od, .func (PySem.W.fnOf x x (defArgs st) (defBody st) (defScope st) .none kV dc pm an cd ct), sl⟩) (c : PySem.W.codeIn K cd x = true) (k : PySem.W.keepIn K (.ref f) = true) : DefAt K mg x st :=
  ⟨f, _, fun_mk l c k, PySem.W.mg_of X G a⟩
section
variable {P : Program} {w : World} {K : PySem.W.Frag} {mg : Str → Option Value} {base : Heap}
/-- all that the top leaves keeps its promise -/
theorem all_ok (B : Sm.Bn mg) (hab : mg "abs" = none) (hen : mg "enumerate" = none) (d1 : DefAt K mg "frozen" (Sm.topS 1)) (d2 : DefAt K mg "ascending" (Sm.topS 2)) (d6 : DefAt K mg "marks_alone" (Sm.topS 6)) (d7 : DefAt K mg "joins" (Sm.topS 7)) (d8 : DefAt K mg "merged" (Sm.topS 8)) (d10 : DefAt K mg "from_highest" (Sm.topS 10)) (d11 : DefAt K mg "last_waters" (Sm.topS 11)) (d12 : DefAt K mg "keeps_rule" (Sm.topS 12)) (d14 : DefAt K mg "pairs_names" (Sm.topS 14)) (d15 : DefAt K mg "check_islands" (Sm.topS 15)) (d17 : DefAt K mg "islands_of" (Sm.topS 17)) (d18 : DefAt K mg "lasts_by" (Sm.topS 18)) (d19 : DefAt K mg "asked_rule" (Sm.topS 19)) (d20 : DefAt K mg "fords_keep" (Sm.topS 20)) (d21 : DefAt K mg "broken_at" (Sm.topS 21)) (d24 : DefAt K mg "_law_take" (Sm.topS 24)) (d26 : DefAt K mg "_law_of" (Sm.topS 26)) (d27 : DefAt K mg "_law_same" (Sm.topS 27)) (d28 : DefAt K mg "_law_lists" (Sm.topS 28)) (d29 : DefAt K mg "_law_pick" (Sm.topS 29)) (d30 : DefAt K mg "_law_isles" (Sm.topS 30)) (d31 : DefAt K mg "_law_pairs" (Sm.topS 31)) (d32 : DefAt K mg "_law_fords" (Sm.topS 32)) (d33 : DefAt K mg "_law_lot" (Sm.topS 33)) (d34 : DefAt K mg "_law_met" (Sm.topS 34)) (d35 : DefAt K mg "_law_turns" (Sm.topS 35)) (d36 : DefAt K mg "_law_due" (Sm.topS 36)) (d37 : DefAt K mg "_law_case_right" (Sm.topS 37)) (d38 : DefAt K mg "_law_by_hand_right" (Sm.topS 38)) (d39 : DefAt K mg "_law_right" (Sm.topS 39)) (d23 : DefAt K mg "_law_box" (Sm.topS 23)) (d25 : DefAt K mg "_law_cells" (Sm.topS 25)) {f : Addr} {fd : FuncData} (F : Fun K "law" "law" (Sm.topS 40) f fd) : FnOk P w K mg base (L2.CX P w) 14 f fd ["_law_script"] (spLaw K) := by
  obtain ⟨f1, fd1, F1, m1⟩ := d1
  have b1 : Binds K fd1 ["value"] [] := F1.binds fun _ _ _ _ _ _ us hl => match us, hl with | [_], _ => rfl
  obtain ⟨f2, fd2, F2, m2⟩ := d2
  have b2 : Binds K fd2 ["values"] [] := F2.binds fun _ _ _ _ _ _ us hl => match us, hl with | [_], _ => rfl
  obtain ⟨f6, fd6, F6, m6⟩ := d6
  have b6 : Binds K fd6 ["islands"] [] := F6.binds fun _ _ _ _ _ _ us hl => match us, hl with | [_], _ => rfl
  obtain ⟨f7, fd7, F7, m7⟩ := d7
  have b7 : Binds K fd7 ["marks", "pair"] [] := F7.binds fun _ _ _ _ _ _ us hl => match us, hl with | [_, _], _ => rfl
  obtain ⟨f8, fd8, F8, m8⟩ := d8
  have b8 : Binds K fd8 ["marks", "pair"] [] := F8.binds fun _ _ _ _ _ _ us hl => match us, hl with | [_, _], _ => rfl
  obtain ⟨f10, fd10, F10, m10⟩ := d10
  have b10 : Binds K fd10 ["fords"] [] := F10.binds fun _ _ _ _ _ _ us hl => match us, hl with | [_], _ => rfl
  obtain ⟨f11, fd11, F11, m11⟩ := d11
  have b11 : Binds K fd11 ["islands", "fords"] [] := F11.binds fun _ _ _ _ _ _ us hl => match us, hl with | [_, _], _ => rfl
  obtain ⟨f12, fd12, F12, m12⟩ := d12
  have b12 : Binds K fd12 ["lasts", "rule"] [] := F12.binds fun _ _ _ _ _ _ us hl => match us, hl with | [_, _], _ => rfl
  obtain ⟨f14, fd14, F14, m14⟩ := d14
  have b14 : Binds K fd14 ["pairs"] [] := F14.binds fun _ _ _ _ _ _ us hl => match us, hl with | [_], _ => rfl
  obtain ⟨f15, fd15, F15, m15⟩ := d15
  have b15 : Binds K fd15 ["islands", "names"] [] := F15.binds fun _ _ _ _ _ _ us hl => match us, hl with | [_, _], _ => rfl
  obtain ⟨f17, fd17, F17, m17⟩ := d17
  have b17 : Binds K fd17 ["fords"] [] := F17.binds fun _ _ _ _ _ _ us hl => match us, hl with | [_], _ => rfl
  obtain ⟨f18, fd18, F18, m18⟩ := d18
  have b18 : Binds K fd18 ["fords"] [] := F18.binds fun _ _ _ _ _ _ us hl => match us, hl with | [_], _ => rfl
  obtain ⟨f19, fd19, F19, m19⟩ := d19
  have b19 : Binds K fd19 ["fords", "wants", "gives"] [] := F19.binds fun _ _ _ _ _ _ us hl => match us, hl with | [_, _, _], _ => rfl
  obtain ⟨f20, fd20, F20, m20⟩ := d20
  have b20 : Binds K fd20 ["fords", "wants", "gives"] [] := F20.binds fun _ _ _ _ _ _ us hl => match us, hl with | [_, _, _], _ => rfl
  obtain ⟨f21, fd21, F21, m21⟩ := d21
  have b21 : Binds K fd21 ["fords", "wants", "gives"] [] := F21.binds fun _ _ _ _ _ _ us hl => match us, hl with | [_, _, _], _ => rfl
  obtain ⟨f24, fd24, F24, m24⟩ := d24
  have b24 : Binds K fd24 ["_law_urn", "_law_low_so"] [] := F24.binds fun _ _ _ _ _ _ us hl => match us, hl with | [_, _], _ => rfl
  obtain ⟨f26, fd26, F26, m26⟩ := d26
  have b26 : Binds K fd26 ["_law_urn", "_law_some_so"] [] := F26.binds fun _ _ _ _ _ _ us hl => match us, hl with | [_, _], _ => rfl
  obtain ⟨f27, fd27, F27, m27⟩ := d27
  have b27 : Binds K fd27 ["_law_got", "_law_goal"] [] := F27.binds fun _ _ _ _ _ _ us hl => match us, hl with | [_, _], _ => rfl
  obtain ⟨f28, fd28, F28, m28⟩ := d28
  have b28 : Binds K fd28 ["_law_matter"] [] := F28.binds fun _ _ _ _ _ _ us hl => match us, hl with | [_], _ => rfl
  obtain ⟨f29, fd29, F29, m29⟩ := d29
  have b29 : Binds K fd29 ["_law_urn", "_law_pool", "_law_size_so"] [] := F29.binds fun _ _ _ _ _ _ us hl => match us, hl with | [_, _, _], _ => rfl
  obtain ⟨f30, fd30, F30, m30⟩ := d30
  have b30 : Binds K fd30 ["_law_urn", "_law_size_so"] [] := F30.binds fun _ _ _ _ _ _ us hl => match us, hl with | [_, _], _ => rfl
  obtain ⟨f31, fd31, F31, m31⟩ := d31
  have b31 : Binds K fd31 ["_law_tags"] [] := F31.binds fun _ _ _ _ _ _ us hl => match us, hl with | [_], _ => rfl
  obtain ⟨f32, fd32, F32, m32⟩ := d32
  have b32 : Binds K fd32 ["_law_urn", "_law_tags", "_law_most_so"] [] := F32.binds fun _ _ _ _ _ _ us hl => match us, hl with | [_, _, _], _ => rfl
  obtain ⟨f33, fd33, F33, m33⟩ := d33
  have b33 : Binds K fd33 ["_law_fords_so", "_law_tags", "_law_water_so", "_law_first"] [] := F33.binds fun _ _ _ _ _ _ us hl => match us, hl with | [_, _, _, _], _ => rfl
  obtain ⟨f34, fd34, F34, m34⟩ := d34
  have b34 : Binds K fd34 ["_law_fords_so", "_law_tags", "_law_water_so", "_law_pair_so"] [] := F34.binds fun _ _ _ _ _ _ us hl => match us, hl with | [_, _, _, _], _ => rfl
  obtain ⟨f35, fd35, F35, m35⟩ := d35
  have b35 : Binds K fd35 ["_law_fords_so"] [] := F35.binds fun _ _ _ _ _ _ us hl => match us, hl with | [_], _ => rfl
  obtain ⟨f36, fd36, F36, m36⟩ := d36
  have b36 : Binds K fd36 ["_law_fords_so", "_law_tags", "_law_wants_so", "_law_own"] [] := F36.binds fun _ _ _ _ _ _ us hl => match us, hl with | [_, _, _, _], _ => rfl
  obtain ⟨f37, fd37, F37, m37⟩ := d37
  have b37 : Binds K fd37 ["_law_urn", "_law_tags", "_law_fords_so"] [] := F37.binds fun _ _ _ _ _ _ us hl => match us, hl with | [_, _, _], _ => rfl
  obtain ⟨f38, fd38, F38, m38⟩ := d38
  have b38 : Binds K fd38 [] [] := F38.binds fun _ _ _ _ _ _ us hl => match us, hl with | [], _ => rfl
  obtain ⟨f39, fd39, F39, m39⟩ := d39
  have b39 : Binds K fd39 ["_law_urn"] [] := F39.binds fun _ _ _ _ _ _ us hl => match us, hl with | [_], _ => rfl
  obtain ⟨f23, fd23, F23, m23⟩ := d23
  have b23 : Binds K fd23 ["_law_script", "_law_k"] [] := F23.binds fun _ _ _ _ _ _ us hl => match us, hl with | [_, _], _ => rfl
  obtain ⟨f25, fd25, F25, m25⟩ := d25
  have b25 : Binds K fd25 ["_law_script", "_law_top"] [] := F25.binds fun _ _ _ _ _ _ us hl => match us, hl with | [_, _], _ => rfl
  have g1 : Sm.GF P w K mg base (fun _ _ => False) 9 "frozen" ["value"] (Sm.f_frozen 8) := Sm.gf_frozen B  F1 m1 b1 8
  have g2 : Sm.GF P w K mg base (fun _ _ => False) 1 "ascending" ["values"] Sm.f_ascending := ⟨f2, fd2, Sm.ok_ascending B  F2, m2, F2.kp, b2⟩
  have g6 : Sm.GF P w K mg base (fun _ _ => False) 1 "marks_alone" ["islands"] Sm.f_marks_alone := ⟨f6, fd6, Sm.ok_marks_alone B  F6, m6, F6.kp, b6⟩
  have g7 : Sm.GF P w K mg base (fun _ _ => False) 1 "joins" ["marks", "pair"] Sm.f_joins := ⟨f7, fd7, Sm.ok_joins B  F7, m7, F7.kp, b7⟩
  have g8 : Sm.GF P w K mg base (fun _ _ => False) 1 "merged" ["marks", "pair"] Sm.f_merged := ⟨f8, fd8, Sm.ok_merged B  F8, m8, F8.kp, b8⟩
  have g10 : Sm.GF P w K mg base (fun _ _ => False) 1 "from_highest" ["fords"] Sm.f_from_highest := ⟨f10, fd10, Sm.ok_from_highest B  F10, m10, F10.kp, b10⟩
  have g11 : Sm.GF P w K mg base (fun _ _ => False) 2 "last_waters" ["islands", "fords"] Sm.f_last_waters := ⟨f11, fd11, Sm.ok_last_waters B g6 g7 g8 g10 F11, m11, F11.kp, b11⟩
  have g12 : Sm.GF P w K mg base (fun _ _ => False) 1 "keeps_rule" ["lasts", "rule"] Sm.f_keeps_rule := ⟨f12, fd12, Sm.ok_keeps_rule B  F12, m12, F12.kp, b12⟩
  have g14 : Sm.GF P w K mg base (fun _ _ => False) 1 "pairs_names" ["pairs"] Sm.f_pairs_names := ⟨f14, fd14, Sm.ok_pairs_names B  F14, m14, F14.kp, b14⟩
  have g15 : Sm.GF P w K mg base (fun _ _ => False) 2 "check_islands" ["islands", "names"] Sm.f_check_islands := ⟨f15, fd15, Sm.ok_check_islands B  F15, m15, F15.kp, b15⟩
  have g17 : Sm.GF P w K mg base (fun _ _ => False) 2 "islands_of" ["fords"] Sm.f_islands_of := ⟨f17, fd17, Sm.ok_islands_of B g2 g14 F17, m17, F17.kp, b17⟩
  have g18 : Sm.GF P w K mg base (fun _ _ => False) 10 "lasts_by" ["fords"] Sm.f_lasts_by := ⟨f18, fd18, Sm.ok_lasts_by B g1 g11 g17 F18, m18, F18.kp, b18⟩
  have g19 : Sm.GF P w K mg base (fun _ _ => False) 10 "asked_rule" ["fords", "wants", "gives"] Sm.f_asked_rule := ⟨f19, fd19, Sm.ok_asked_rule B g1 g14 g15 g17 F19, m19, F19.kp, b19⟩
  have g20 : Sm.GF P w K mg base (fun _ _ => False) 11 "fords_keep" ["fords", "wants", "gives"] Sm.f_fords_keep := ⟨f20, fd20, Sm.ok_fords_keep B g12 g18 g19 F20, m20, F20.kp, b20⟩
  have g21 : Sm.GF P w K mg base (fun _ _ => False) 11 "broken_at" ["fords", "wants", "gives"] Sm.f_broken_at := ⟨f21, fd21, Sm.ok_broken_at B g12 g18 g19 F21, m21, F21.kp, b21⟩
  have g24 : Sm.GF P w K mg base (fun _ _ => False) 1 "_law_take" ["_law_urn", "_law_low_so"] Sm.f__law_take := ⟨f24, fd24, Sm.ok__law_take B  F24, m24, F24.kp, b24⟩
  have g26 : Sm.GF P w K mg base (fun _ _ => False) 2 "_law_of" ["_law_urn", "_law_some_so"] Sm.f__law_of := ⟨f26, fd26, Sm.ok__law_of B g24 F26, m26, F26.kp, b26⟩
  have g27 : Sm.GF P w K mg base (fun _ _ => False) 9 "_law_same" ["_law_got", "_law_goal"] (Sm.f__law_same 8) := Sm.gf__law_same B  F27 m27 b27 8
  have g28 : Sm.GF P w K mg base (fun _ _ => False) 9 "_law_lists" ["_law_matter"] (Sm.f__law_lists 8) := Sm.gf__law_lists B  F28 m28 b28 8
  have g29 : Sm.GF P w K mg base (fun _ _ => False) 2 "_law_pick" ["_law_urn", "_law_pool", "_law_size_so"] Sm.f__law_pick := ⟨f29, fd29, Sm.ok__law_pick B g24 F29, m29, F29.kp, b29⟩
  have g30 : Sm.GF P w K mg base (fun _ _ => False) 3 "_law_isles" ["_law_urn", "_law_size_so"] Sm.f__law_isles := ⟨f30, fd30, Sm.ok__law_isles B g29 F30, m30, F30.kp, b30⟩
  have g31 : Sm.GF P w K mg base (fun _ _ => False) 1 "_law_pairs" ["_law_tags"] Sm.f__law_pairs := ⟨f31, fd31, Sm.ok__law_pairs B  F31, m31, F31.kp, b31⟩
  have g32 : Sm.GF P w K mg base (fun _ _ => False) 3 "_law_fords" ["_law_urn", "_law_tags", "_law_most_so"] Sm.f__law_fords := ⟨f32, fd32, Sm.ok__law_fords B g24 g26 g31 F32, m32, F32.kp, b32⟩
  have g33 : Sm.GF P w K mg base (fun _ _ => False) 1 "_law_lot" ["_law_fords_so", "_law_tags", "_law_water_so", "_law_first"] Sm.f__law_lot := ⟨f33, fd33, Sm.ok__law_lot B  F33, m33, F33.kp, b33⟩
  have g34 : Sm.GF P w K mg base (fun _ _ => False) 2 "_law_met" ["_law_fords_so", "_law_tags", "_law_water_so", "_law_pair_so"] Sm.f__law_met := ⟨f34, fd34, Sm.ok__law_met B g33 F34, m34, F34.kp, b34⟩
  have g35 : Sm.GF P w K mg base (fun _ _ => False) 1 "_law_turns" ["_law_fords_so"] Sm.f__law_turns := ⟨f35, fd35, Sm.ok__law_turns B  F35, m35, F35.kp, b35⟩
  have g36 : Sm.GF P w K mg base (fun _ _ => False) 3 "_law_due" ["_law_fords_so", "_law_tags", "_law_wants_so", "_law_own"] Sm.f__law_due := ⟨f36, fd36, Sm.ok__law_due B g34 g35 F36, m36, F36.kp, b36⟩
  have k21_0 : Sm.GFK P w K mg base (fun _ _ => False) 11 "broken_at" ["fords", "wants", "gives"] ["gives", "wants", "fords"] 0 [2, 1, 0] Sm.f_broken_at := ⟨f21, fd21, Sm.ok_broken_at B g12 g18 g19 F21, m21, F21.kp, kbinds_P F21 fun _ _ _ _ _ _ us ws h1 h2 => match us, ws, h1, h2 with | [], [_, _, _], _, _ => rfl⟩
  have k20_1 : Sm.GFK P w K mg base (fun _ _ => False) 11 "fords_keep" ["fords", "wants", "gives"] ["gives", "wants", "fords"] 0 [2, 1, 0] Sm.f_fords_keep := ⟨f20, fd20, Sm.ok_fords_keep B g12 g18 g19 F20, m20, F20.kp, kbinds_P F20 fun _ _ _ _ _ _ us ws h1 h2 => match us, ws, h1, h2 with | [], [_, _, _], _, _ => rfl⟩
  have g37 : Sm.GF P w K mg base (fun _ _ => False) 12 "_law_case_right" ["_law_urn", "_law_tags", "_law_fords_so"] Sm.f__law_case_right := ⟨f37, fd37, Sm.ok__law_case_right B g20 g21 g24 g26 g27 g28 g29 g31 g36 k21_0 k20_1 F37, m37, F37.kp, b37⟩
  have g38 : Sm.GF P w K mg base (fun _ _ => False) 12 "_law_by_hand_right" [] Sm.f__law_by_hand_right := ⟨f38, fd38, Sm.ok__law_by_hand_right B g20 g21 g27 g31 F38, m38, F38.kp, b38⟩
  have g39 : Sm.GF P w K mg base (fun _ _ => False) 13 "_law_right" ["_law_urn"] Sm.f__law_right := ⟨f39, fd39, Sm.ok__law_right B g24 g30 g32 g37 F39, m39, F39.kp, b39⟩
  have gX : HasC P w K mg base 1 "_law_box" ["_law_script", "_law_k"] (spBox K) := ⟨f23, fd23, ok_box B hab F23, m23, F23.kp, b23⟩
  have gC : HasC P w K mg base 1 "_law_cells" ["_law_script", "_law_top"] (spCells K) := ⟨f25, fd25, ok_cells B hen F25, m25, F25.kp, b25⟩
  exact ok_law (cm := fun _ _ => False) B gC gX g39 g38 F
end
theorem all_mk {l : PySem.W.OpenLaw} {w : World} {K : PySem.W.Frag} {h : Heap} {mg : Str → Option Value} {fa : Addr} (X : K.In h) (G : h.Ns mainGlobals mg) (hfa : mg "law" = some (.ref fa))
    {f1 f2 f6 f7 f8 f10 f11 f12 f14 f15 f17 f18 f19 f20 f21 f23 f24 f25 f26 f27 f28 f29 f30 f31 f32 f33 f34 f35 f36 f37 f38 f39 f40 : Addr} {od1 an1 od2 an2 od6 an6 od7 an7 od8 an8 od10 an10 od11 an11 od12 an12 od14 an14 od15 an15 od17 an17 od18 an18 od19 an19 od20 an20 od21 an21 od23 an23 od24 an24 od25 an25 od26 an26 od27 an27 od28 an28 od29 an29 od30 an30 od31 an31 od32 an32 od33 an33 od34 an34 od35 an35 od36 an36 od37 an37 od38 an38 od39 an39 od40 an40 : Option Addr} {sl1 sl2 sl6 sl7 sl8 sl10 sl11 sl12 sl14 sl15 sl17 sl18 sl19 sl20 sl21 sl23 sl24 sl25 sl26 sl27 sl28 sl29 sl30 sl31 sl32 sl33 sl34 sl35 sl36 sl37 sl38 sl39 sl40 : Array (Option Value)} {oc1 kV1 dc1 pm1 cd1 ct1 oc2 kV2 dc2 pm2 cd2 ct2 oc6 kV6 dc6 pm6 cd6 ct6 oc7 kV7 dc7 pm7 cd7 ct7 oc8 kV8 dc8 pm8 cd8 ct8 oc10 kV10 dc10 pm10 cd10 ct10 oc11 kV11 dc11 pm11 cd11 ct11 oc12 kV12 dc12 pm12 cd12 ct12 oc14 kV14 dc14 pm14 cd14 ct14 oc15 kV15 dc15 pm15 cd15 ct15 oc17 kV17 dc17 pm17 cd17 ct17 oc18 kV18 dc18 pm18 cd18 ct18 oc19 kV19 dc19 pm19 cd19 ct19 oc20 kV20 dc20 pm20 cd20 ct20 oc21 kV21 dc21 pm21 cd21 ct21 oc23 kV23 dc23 pm23 cd23 ct23 oc24 kV24 dc24 pm24 cd24 ct24 oc25 kV25 dc25 pm25 cd25 ct25 oc26 kV26 dc26 pm26 cd26 ct26 oc27 kV27 dc27 pm27 cd27 ct27 oc28 kV28 dc28 pm28 cd28 ct28 oc29 kV29 dc29 pm29 cd29 ct29 oc30 kV30 dc30 pm30 cd30 ct30 oc31 kV31 dc31 pm31 cd31 ct31 oc32 kV32 dc32 pm32 cd32 ct32 oc33 kV33 dc33 pm33 cd33 ct33 oc34 kV34 dc34 pm34 cd34 ct34 oc35 kV35 dc35 pm35 cd35 ct35 oc36 kV36 dc36 pm36 cd36 ct36 oc37 kV37 dc37 pm37 cd37 ct37 oc38 kV38 dc38 pm38 cd38 ct38 oc39 kV39 dc39 pm39 cd39 ct39 oc40 kV40 dc40 pm40 cd40 ct40 : Value}
    (a1 : PySem.W.nsIn K mainGlobals "frozen" = some (some (.ref f1))) (l1 : K.lookup f1 = some ⟨oc1, od1, .func (PySem.W.fnOf "frozen" "frozen" (defArgs (Sm.topS 1)) (defBody (Sm.topS 1)) (defScope (Sm.topS 1)) .none kV1 dc1 pm1 an1 cd1 ct1), sl1⟩) (c1 : PySem.W.codeIn K cd1 "frozen" = true) (k1 : PySem.W.keepIn K (.ref f1) = true)
    (a2 : PySem.W.nsIn K mainGlobals "ascending" = some (some (.ref f2))) (l2 : K.lookup f2 = some ⟨oc2, od2, .func (PySem.W.fnOf "ascending" "ascending" (defArgs (Sm.topS 2)) (defBody (Sm.topS 2)) (defScope (Sm.topS 2)) .none kV2 dc2 pm2 an2 cd2 ct2), sl2⟩) (c2 : PySem.W.codeIn K cd2 "ascending" = true) (k2 : PySem.W.keepIn K (.ref f2) = true)
    (a6 : PySem.W.nsIn K mainGlobals "marks_alone" = some (some (.ref f6))) (l6 : K.lookup f6 = some ⟨oc6, od6, .func (PySem.W.fnOf "marks_alone" "marks_alone" (defArgs (Sm.topS 6)) (defBody (Sm.topS 6)) (defScope (Sm.topS 6)) .none kV6 dc6 pm6 an6 cd6 ct6), sl6⟩) (c6 : PySem.W.codeIn K cd6 "marks_alone" = true) (k6 : PySem.W.keepIn K (.ref f6) = true)
    (a7 : PySem.W.nsIn K mainGlobals "joins" = some (some (.ref f7))) (l7 : K.lookup f7 = some ⟨oc7, od7, .func (PySem.W.fnOf "joins" "joins" (defArgs (Sm.topS 7)) (defBody (Sm.topS 7)) (defScope (Sm.topS 7)) .none kV7 dc7 pm7 an7 cd7 ct7), sl7⟩) (c7 : PySem.W.codeIn K cd7 "joins" = true) (k7 : PySem.W.keepIn K (.ref f7) = true)
    (a8 : PySem.W.nsIn K mainGlobals "merged" = some (some (.ref f8))) (l8 : K.lookup f8 = some ⟨oc8, od8, .func (PySem.W.fnOf "merged" "merged" (defArgs (Sm.topS 8)) (defBody (Sm.topS 8)) (defScope (Sm.topS 8)) .none kV8 dc8 pm8 an8 cd8 ct8), sl8⟩) (c8 : PySem.W.codeIn K cd8 "merged" = true) (k8 : PySem.W.keepIn K (.ref f8) = true)
    (a10 : PySem.W.nsIn K mainGlobals "from_highest" = some (some (.ref f10))) (l10 : K.lookup f10 = some ⟨oc10, od10, .func (PySem.W.fnOf "from_highest" "from_highest" (defArgs (Sm.topS 10)) (defBody (Sm.topS 10)) (defScope (Sm.topS 10)) .none kV10 dc10 pm10 an10 cd10 ct10), sl10⟩) (c10 : PySem.W.codeIn K cd10 "from_highest" = true) (k10 : PySem.W.keepIn K (.ref f10) = true)
    (a11 : PySem.W.nsIn K mainGlobals "last_waters" = some (some (.ref f11))) (l11 : K.lookup f11 = some ⟨oc11, od11, .func (PySem.W.fnOf "last_waters" "last_waters" (defArgs (Sm.topS 11)) (defBody (Sm.topS 11)) (defScope (Sm.topS 11)) .none kV11 dc11 pm11 an11 cd11 ct11), sl11⟩) (c11 : PySem.W.codeIn K cd11 "last_waters" = true) (k11 : PySem.W.keepIn K (.ref f11) = true)
    (a12 : PySem.W.nsIn K mainGlobals "keeps_rule" = some (some (.ref f12))) (l12 : K.lookup f12 = some ⟨oc12, od12, .func (PySem.W.fnOf "keeps_rule" "keeps_rule" (defArgs (Sm.topS 12)) (defBody (Sm.topS 12)) (defScope (Sm.topS 12)) .none kV12 dc12 pm12 an12 cd12 ct12), sl12⟩) (c12 : PySem.W.codeIn K cd12 "keeps_rule" = true) (k12 : PySem.W.keepIn K (.ref f12) = true)
    (a14 : PySem.W.nsIn K mainGlobals "pairs_names" = some (some (.ref f14))) (l14 : K.lookup f14 = some ⟨oc14, od14, .func (PySem.W.fnOf "pairs_names" "pairs_names" (defArgs (Sm.topS 14)) (defBody (Sm.topS 14)) (defScope (Sm.topS 14)) .none kV14 dc14 pm14 an14 cd14 ct14), sl14⟩) (c14 : PySem.W.codeIn K cd14 "pairs_names" = true) (k14 : PySem.W.keepIn K (.ref f14) = true)
    (a15 : PySem.W.nsIn K mainGlobals "check_islands" = some (some (.ref f15))) (l15 : K.lookup f15 = some ⟨oc15, od15, .func (PySem.W.fnOf "check_islands" "check_islands" (defArgs (Sm.topS 15)) (defBody (Sm.topS 15)) (defScope (Sm.topS 15)) .none kV15 dc15 pm15 an15 cd15 ct15), sl15⟩) (c15 : PySem.W.codeIn K cd15 "check_islands" = true) (k15 : PySem.W.keepIn K (.ref f15) = true)
    (a17 : PySem.W.nsIn K mainGlobals "islands_of" = some (some (.ref f17))) (l17 : K.lookup f17 = some ⟨oc17, od17, .func (PySem.W.fnOf "islands_of" "islands_of" (defArgs (Sm.topS 17)) (defBody (Sm.topS 17)) (defScope (Sm.topS 17)) .none kV17 dc17 pm17 an17 cd17 ct17), sl17⟩) (c17 : PySem.W.codeIn K cd17 "islands_of" = true) (k17 : PySem.W.keepIn K (.ref f17) = true)
    (a18 : PySem.W.nsIn K mainGlobals "lasts_by" = some (some (.ref f18))) (l18 : K.lookup f18 = some ⟨oc18, od18, .func (PySem.W.fnOf "lasts_by" "lasts_by" (defArgs (Sm.topS 18)) (defBody (Sm.topS 18)) (defScope (Sm.topS 18)) .none kV18 dc18 pm18 an18 cd18 ct18), sl18⟩) (c18 : PySem.W.codeIn K cd18 "lasts_by" = true) (k18 : PySem.W.keepIn K (.ref f18) = true)
    (a19 : PySem.W.nsIn K mainGlobals "asked_rule" = some (some (.ref f19))) (l19 : K.lookup f19 = some ⟨oc19, od19, .func (PySem.W.fnOf "asked_rule" "asked_rule" (defArgs (Sm.topS 19)) (defBody (Sm.topS 19)) (defScope (Sm.topS 19)) .none kV19 dc19 pm19 an19 cd19 ct19), sl19⟩) (c19 : PySem.W.codeIn K cd19 "asked_rule" = true) (k19 : PySem.W.keepIn K (.ref f19) = true)
    (a20 : PySem.W.nsIn K mainGlobals "fords_keep" = some (some (.ref f20))) (l20 : K.lookup f20 = some ⟨oc20, od20, .func (PySem.W.fnOf "fords_keep" "fords_keep" (defArgs (Sm.topS 20)) (defBody (Sm.topS 20)) (defScope (Sm.topS 20)) .none kV20 dc20 pm20 an20 cd20 ct20), sl20⟩) (c20 : PySem.W.codeIn K cd20 "fords_keep" = true) (k20 : PySem.W.keepIn K (.ref f20) = true)
    (a21 : PySem.W.nsIn K mainGlobals "broken_at" = some (some (.ref f21))) (l21 : K.lookup f21 = some ⟨oc21, od21, .func (PySem.W.fnOf "broken_at" "broken_at" (defArgs (Sm.topS 21)) (defBody (Sm.topS 21)) (defScope (Sm.topS 21)) .none kV21 dc21 pm21 an21 cd21 ct21), sl21⟩) (c21 : PySem.W.codeIn K cd21 "broken_at" = true) (k21 : PySem.W.keepIn K (.ref f21) = true)
    (a23 : PySem.W.nsIn K mainGlobals "_law_box" = some (some (.ref f23))) (l23 : K.lookup f23 = some ⟨oc23, od23, .func (PySem.W.fnOf "_law_box" "_law_box" (defArgs (Sm.topS 23)) (defBody (Sm.topS 23)) (defScope (Sm.topS 23)) .none kV23 dc23 pm23 an23 cd23 ct23), sl23⟩) (c23 : PySem.W.codeIn K cd23 "_law_box" = true) (k23 : PySem.W.keepIn K (.ref f23) = true)
    (a24 : PySem.W.nsIn K mainGlobals "_law_take" = some (some (.ref f24))) (l24 : K.lookup f24 = some ⟨oc24, od24, .func (PySem.W.fnOf "_law_take" "_law_take" (defArgs (Sm.topS 24)) (defBody (Sm.topS 24)) (defScope (Sm.topS 24)) .none kV24 dc24 pm24 an24 cd24 ct24), sl24⟩) (c24 : PySem.W.codeIn K cd24 "_law_take" = true) (k24 : PySem.W.keepIn K (.ref f24) = true)
    (a25 : PySem.W.nsIn K mainGlobals "_law_cells" = some (some (.ref f25))) (l25 : K.lookup f25 = some ⟨oc25, od25, .func (PySem.W.fnOf "_law_cells" "_law_cells" (defArgs (Sm.topS 25)) (defBody (Sm.topS 25)) (defScope (Sm.topS 25)) .none kV25 dc25 pm25 an25 cd25 ct25), sl25⟩) (c25 : PySem.W.codeIn K cd25 "_law_cells" = true) (k25 : PySem.W.keepIn K (.ref f25) = true)
    (a26 : PySem.W.nsIn K mainGlobals "_law_of" = some (some (.ref f26))) (l26 : K.lookup f26 = some ⟨oc26, od26, .func (PySem.W.fnOf "_law_of" "_law_of" (defArgs (Sm.topS 26)) (defBody (Sm.topS 26)) (defScope (Sm.topS 26)) .none kV26 dc26 pm26 an26 cd26 ct26), sl26⟩) (c26 : PySem.W.codeIn K cd26 "_law_of" = true) (k26 : PySem.W.keepIn K (.ref f26) = true)
    (a27 : PySem.W.nsIn K mainGlobals "_law_same" = some (some (.ref f27))) (l27 : K.lookup f27 = some ⟨oc27, od27, .func (PySem.W.fnOf "_law_same" "_law_same" (defArgs (Sm.topS 27)) (defBody (Sm.topS 27)) (defScope (Sm.topS 27)) .none kV27 dc27 pm27 an27 cd27 ct27), sl27⟩) (c27 : PySem.W.codeIn K cd27 "_law_same" = true) (k27 : PySem.W.keepIn K (.ref f27) = true)
    (a28 : PySem.W.nsIn K mainGlobals "_law_lists" = some (some (.ref f28))) (l28 : K.lookup f28 = some ⟨oc28, od28, .func (PySem.W.fnOf "_law_lists" "_law_lists" (defArgs (Sm.topS 28)) (defBody (Sm.topS 28)) (defScope (Sm.topS 28)) .none kV28 dc28 pm28 an28 cd28 ct28), sl28⟩) (c28 : PySem.W.codeIn K cd28 "_law_lists" = true) (k28 : PySem.W.keepIn K (.ref f28) = true)
    (a29 : PySem.W.nsIn K mainGlobals "_law_pick" = some (some (.ref f29))) (l29 : K.lookup f29 = some ⟨oc29, od29, .func (PySem.W.fnOf "_law_pick" "_law_pick" (defArgs (Sm.topS 29)) (defBody (Sm.topS 29)) (defScope (Sm.topS 29)) .none kV29 dc29 pm29 an29 cd29 ct29), sl29⟩) (c29 : PySem.W.codeIn K cd29 "_law_pick" = true) (k29 : PySem.W.keepIn K (.ref f29) = true)
    (a30 : PySem.W.nsIn K mainGlobals "_law_isles" = some (some (.ref f30))) (l30 : K.lookup f30 = some ⟨oc30, od30, .func (PySem.W.fnOf "_law_isles" "_law_isles" (defArgs (Sm.topS 30)) (defBody (Sm.topS 30)) (defScope (Sm.topS 30)) .none kV30 dc30 pm30 an30 cd30 ct30), sl30⟩) (c30 : PySem.W.codeIn K cd30 "_law_isles" = true) (k30 : PySem.W.keepIn K (.ref f30) = true)
    (a31 : PySem.W.nsIn K mainGlobals "_law_pairs" = some (some (.ref f31))) (l31 : K.lookup f31 = some ⟨oc31, od31, .func (PySem.W.fnOf "_law_pairs" "_law_pairs" (defArgs (Sm.topS 31)) (defBody (Sm.topS 31)) (defScope (Sm.topS 31)) .none kV31 dc31 pm31 an31 cd31 ct31), sl31⟩) (c31 : PySem.W.codeIn K cd31 "_law_pairs" = true) (k31 : PySem.W.keepIn K (.ref f31) = true)
    (a32 : PySem.W.nsIn K mainGlobals "_law_fords" = some (some (.ref f32))) (l32 : K.lookup f32 = some ⟨oc32, od32, .func (PySem.W.fnOf "_law_fords" "_law_fords" (defArgs (Sm.topS 32)) (defBody (Sm.topS 32)) (defScope (Sm.topS 32)) .none kV32 dc32 pm32 an32 cd32 ct32), sl32⟩) (c32 : PySem.W.codeIn K cd32 "_law_fords" = true) (k32 : PySem.W.keepIn K (.ref f32) = true)
    (a33 : PySem.W.nsIn K mainGlobals "_law_lot" = some (some (.ref f33))) (l33 : K.lookup f33 = some ⟨oc33, od33, .func (PySem.W.fnOf "_law_lot" "_law_lot" (defArgs (Sm.topS 33)) (defBody (Sm.topS 33)) (defScope (Sm.topS 33)) .none kV33 dc33 pm33 an33 cd33 ct33), sl33⟩) (c33 : PySem.W.codeIn K cd33 "_law_lot" = true) (k33 : PySem.W.keepIn K (.ref f33) = true)
    (a34 : PySem.W.nsIn K mainGlobals "_law_met" = some (some (.ref f34))) (l34 : K.lookup f34 = some ⟨oc34, od34, .func (PySem.W.fnOf "_law_met" "_law_met" (defArgs (Sm.topS 34)) (defBody (Sm.topS 34)) (defScope (Sm.topS 34)) .none kV34 dc34 pm34 an34 cd34 ct34), sl34⟩) (c34 : PySem.W.codeIn K cd34 "_law_met" = true) (k34 : PySem.W.keepIn K (.ref f34) = true)
    (a35 : PySem.W.nsIn K mainGlobals "_law_turns" = some (some (.ref f35))) (l35 : K.lookup f35 = some ⟨oc35, od35, .func (PySem.W.fnOf "_law_turns" "_law_turns" (defArgs (Sm.topS 35)) (defBody (Sm.topS 35)) (defScope (Sm.topS 35)) .none kV35 dc35 pm35 an35 cd35 ct35), sl35⟩) (c35 : PySem.W.codeIn K cd35 "_law_turns" = true) (k35 : PySem.W.keepIn K (.ref f35) = true)
    (a36 : PySem.W.nsIn K mainGlobals "_law_due" = some (some (.ref f36))) (l36 : K.lookup f36 = some ⟨oc36, od36, .func (PySem.W.fnOf "_law_due" "_law_due" (defArgs (Sm.topS 36)) (defBody (Sm.topS 36)) (defScope (Sm.topS 36)) .none kV36 dc36 pm36 an36 cd36 ct36), sl36⟩) (c36 : PySem.W.codeIn K cd36 "_law_due" = true) (k36 : PySem.W.keepIn K (.ref f36) = true)
    (a37 : PySem.W.nsIn K mainGlobals "_law_case_right" = some (some (.ref f37))) (l37 : K.lookup f37 = some ⟨oc37, od37, .func (PySem.W.fnOf "_law_case_right" "_law_case_right" (defArgs (Sm.topS 37)) (defBody (Sm.topS 37)) (defScope (Sm.topS 37)) .none kV37 dc37 pm37 an37 cd37 ct37), sl37⟩) (c37 : PySem.W.codeIn K cd37 "_law_case_right" = true) (k37 : PySem.W.keepIn K (.ref f37) = true)
    (a38 : PySem.W.nsIn K mainGlobals "_law_by_hand_right" = some (some (.ref f38))) (l38 : K.lookup f38 = some ⟨oc38, od38, .func (PySem.W.fnOf "_law_by_hand_right" "_law_by_hand_right" (defArgs (Sm.topS 38)) (defBody (Sm.topS 38)) (defScope (Sm.topS 38)) .none kV38 dc38 pm38 an38 cd38 ct38), sl38⟩) (c38 : PySem.W.codeIn K cd38 "_law_by_hand_right" = true) (k38 : PySem.W.keepIn K (.ref f38) = true)
    (a39 : PySem.W.nsIn K mainGlobals "_law_right" = some (some (.ref f39))) (l39 : K.lookup f39 = some ⟨oc39, od39, .func (PySem.W.fnOf "_law_right" "_law_right" (defArgs (Sm.topS 39)) (defBody (Sm.topS 39)) (defScope (Sm.topS 39)) .none kV39 dc39 pm39 an39 cd39 ct39), sl39⟩) (c39 : PySem.W.codeIn K cd39 "_law_right" = true) (k39 : PySem.W.keepIn K (.ref f39) = true)
    (a40 : PySem.W.nsIn K mainGlobals "law" = some (some (.ref f40))) (l40 : K.lookup f40 = some ⟨oc40, od40, .func (PySem.W.fnOf "law" "law" (defArgs (Sm.topS 40)) (defBody (Sm.topS 40)) (defScope (Sm.topS 40)) .none kV40 dc40 pm40 an40 cd40 ct40), sl40⟩) (c40 : PySem.W.codeIn K cd40 "law" = true) (k40 : PySem.W.keepIn K (.ref f40) = true)
    (z0 : PySem.W.nsIn K mainGlobals "all" = some none)
    (z1 : PySem.W.nsIn K mainGlobals "bool" = some none)
    (z2 : PySem.W.nsIn K mainGlobals "enumerate" = some none)
    (z3 : PySem.W.nsIn K mainGlobals "int" = some none)
    (z4 : PySem.W.nsIn K mainGlobals "isinstance" = some none)
    (z5 : PySem.W.nsIn K mainGlobals "len" = some none)
    (z6 : PySem.W.nsIn K mainGlobals "list" = some none)
    (z7 : PySem.W.nsIn K mainGlobals "max" = some none)
    (z8 : PySem.W.nsIn K mainGlobals "min" = some none)
    (z9 : PySem.W.nsIn K mainGlobals "ord" = some none)
    (z10 : PySem.W.nsIn K mainGlobals "range" = some none)
    (z11 : PySem.W.nsIn K mainGlobals "set" = some none)
    (z12 : PySem.W.nsIn K mainGlobals "sorted" = some none)
    (z13 : PySem.W.nsIn K mainGlobals "str" = some none)
    (z14 : PySem.W.nsIn K mainGlobals "tuple" = some none)
    (z15 : PySem.W.nsIn K mainGlobals "zip" = some none)
    (z16 : PySem.W.nsIn K mainGlobals "abs" = some none)
    (z17 : PySem.W.nsIn K mainGlobals "enumerate" = some none)
    : ∃ fd : FuncData, (∀ (s : Shared) (v : Value), BindsTo s fd ⟨[v], []⟩ [("_law_script", v)]) ∧ ∀ base : Heap, K.In base → base.Ns mainGlobals mg → FnOk l.prog w K mg base (L2.CX l.prog w) 14 fa fd ["_law_script"] (spLaw K) := by
  have e := hfa.symm.trans (PySem.W.mg_of X G a40)
  cases e
  have F40 := fun_mk (st := Sm.topS 40) l40 c40 k40
  have B : Sm.Bn mg := ⟨PySem.W.mg_none_of X G z0, PySem.W.mg_none_of X G z1, PySem.W.mg_none_of X G z2, PySem.W.mg_none_of X G z3, PySem.W.mg_none_of X G z4, PySem.W.mg_none_of X G z5, PySem.W.mg_none_of X G z6, PySem.W.mg_none_of X G z7, PySem.W.mg_none_of X G z8, PySem.W.mg_none_of X G z9, PySem.W.mg_none_of X G z10, PySem.W.mg_none_of X G z11, PySem.W.mg_none_of X G z12, PySem.W.mg_none_of X G z13, PySem.W.mg_none_of X G z14, PySem.W.mg_none_of X G z15⟩
  refine ⟨PySem.W.fnOf "law" "law" (defArgs (Sm.topS 40)) (defBody (Sm.topS 40)) (defScope (Sm.topS 40)) .none kV40 dc40 pm40 an40 cd40 ct40, fun s v => .of_eq rfl, fun base _ _ => ?_⟩
  exact all_ok B (PySem.W.mg_none_of X G z16) (PySem.W.mg_none_of X G z17) (def_mk X G a1 l1 c1 k1) (def_mk X G a2 l2 c2 k2) (def_mk X G a6 l6 c6 k6) (def_mk X G a7 l7 c7 k7) (def_mk X G a8 l8 c8 k8) (def_mk X G a10 l10 c10 k10) (def_mk X G a11 l11 c11 k11) (def_mk X G a12 l12 c12 k12) (def_mk X G a14 l14 c14 k14) (def_mk X G a15 l15 c15 k15) (def_mk X G a17 l17 c17 k17) (def_mk X G a18 l18 c18 k18) (def_mk X G a19 l19 c19 k19) (def_mk X G a20 l20 c20 k20) (def_mk X G a21 l21 c21 k21) (def_mk X G a24 l24 c24 k24) (def_mk X G a26 l26 c26 k26) (def_mk X G a27 l27 c27 k27) (def_mk X G a28 l28 c28 k28) (def_mk X G a29 l29 c29 k29) (def_mk X G a30 l30 c30 k30) (def_mk X G a31 l31 c31 k31) (def_mk X G a32 l32 c32 k32) (def_mk X G a33 l33 c33 k33) (def_mk X G a34 l34 c34 k34) (def_mk X G a35 l35 c35 k35) (def_mk X G a36 l36 c36 k36) (def_mk X G a37 l37 c37 k37) (def_mk X G a38 l38 c38 k38) (def_mk X G a39 l39 c39 k39) (def_mk X G a23 l23 c23 k23) (def_mk X G a25 l25 c25 k25) F40
theorem walk {l : PySem.W.OpenLaw} {q : Program} {loose : List Str} {XP : (Str → Option Value) → Heap → Prop} {YP : World → Heap → Prop} {d : DefRec} {K : Params → PySem.W.Frag} (hn : l.most = some 63) (hdf : d.params.defaults = [])
    (hY : ∀ (w : World) (h : Heap), YP w h → (K w.params).In h)
    (F : ∀ (w : World) (mg : Str → Option Value) (fa : Addr) (h : Heap), (K w.params).In h → h.Ns mainGlobals mg → mg d.name = some (.ref fa) →
      ∃ fd : FuncData, (∀ (s : Shared) (u : Value), BindsTo s fd ⟨[u], []⟩ [("_law_script", u)]) ∧ ∀ base : Heap, (K w.params).In base → base.Ns mainGlobals mg → FnOk l.prog w (K w.params) mg base (L2.CX l.prog w) 14 fa fd ["_law_script"] (spLaw (K w.params))) :
    PySem.W.WalkO q loose XP YP l.row.toRowW d [] (fun f vs => PySem.call f vs) :=
  L2.walk_of (n := 63) (k := 14) (x := "_law_script") (CX := fun w => L2.CX l.prog w) (sp := fun w => spLaw (K w.params)) hn (by decide) hdf ⟨rfl, by decide, by decide⟩ hY F (fun _ _ a ns hl _ hS => ⟨a, ns, rfl, hS, hl, fun _ => rfl⟩) fun _ _ _ _ _ ⟨_, _, _, _, _, _, _, _, _, _, _, _, z⟩ => z
end Lf
open PySem PySem.W PyProof.Rows
set_option maxRecDepth 100000 in
set_option maxHeartbeats 0 in
theorem PySem.Challenge.cw_lastfords_k72_rules_that_fords_keep_holds : PySem.Challenge.rw_lastfords_k72_rules_that_fords_keep.Holds := by
  w_on; o_law; k_head; (case hw => w_witness2)
  k_fill
  refine Lf.walk (l := PySem.Challenge.rw_lastfords_k72_rules_that_fords_keep) rfl rfl (fun w h Y => PySem.W.kIn_of Y) ?F
  case F =>
    intro w mg fa h KX G hmg
    refine' Lf.all_mk KX G hmg ?a1 ?l1 ?c1 ?k1 ?a2 ?l2 ?c2 ?k2 ?a6 ?l6 ?c6 ?k6 ?a7 ?l7 ?c7 ?k7 ?a8 ?l8 ?c8 ?k8 ?a10 ?l10 ?c10 ?k10 ?a11 ?l11 ?c11 ?k11 ?a12 ?l12 ?c12 ?k12 ?a14 ?l14 ?c14 ?k14 ?a15 ?l15 ?c15 ?k15 ?a17 ?l17 ?c17 ?k17 ?a18 ?l18 ?c18 ?k18 ?a19 ?l19 ?c19 ?k19 ?a20 ?l20 ?c20 ?k20 ?a21 ?l21 ?c21 ?k21 ?a23 ?l23 ?c23 ?k23 ?a24 ?l24 ?c24 ?k24 ?a25 ?l25 ?c25 ?k25 ?a26 ?l26 ?c26 ?k26 ?a27 ?l27 ?c27 ?k27 ?a28 ?l28 ?c28 ?k28 ?a29 ?l29 ?c29 ?k29 ?a30 ?l30 ?c30 ?k30 ?a31 ?l31 ?c31 ?k31 ?a32 ?l32 ?c32 ?k32 ?a33 ?l33 ?c33 ?k33 ?a34 ?l34 ?c34 ?k34 ?a35 ?l35 ?c35 ?k35 ?a36 ?l36 ?c36 ?k36 ?a37 ?l37 ?c37 ?k37 ?a38 ?l38 ?c38 ?k38 ?a39 ?l39 ?c39 ?k39 ?a40 ?l40 ?c40 ?k40 ?z0 ?z1 ?z2 ?z3 ?z4 ?z5 ?z6 ?z7 ?z8 ?z9 ?z10 ?z11 ?z12 ?z13 ?z14 ?z15 ?z16 ?z17
    (case a1 => k_is); (case l1 => k_is); (case c1 => k_is); (case k1 => k_is)
    (case a2 => k_is); (case l2 => k_is); (case c2 => k_is); (case k2 => k_is)
    (case a6 => k_is); (case l6 => k_is); (case c6 => k_is); (case k6 => k_is)
    (case a7 => k_is); (case l7 => k_is); (case c7 => k_is); (case k7 => k_is)
    (case a8 => k_is); (case l8 => k_is); (case c8 => k_is); (case k8 => k_is)
    (case a10 => k_is); (case l10 => k_is); (case c10 => k_is); (case k10 => k_is)
    (case a11 => k_is); (case l11 => k_is); (case c11 => k_is); (case k11 => k_is)
    (case a12 => k_is); (case l12 => k_is); (case c12 => k_is); (case k12 => k_is)
    (case a14 => k_is); (case l14 => k_is); (case c14 => k_is); (case k14 => k_is)
    (case a15 => k_is); (case l15 => k_is); (case c15 => k_is); (case k15 => k_is)
    (case a17 => k_is); (case l17 => k_is); (case c17 => k_is); (case k17 => k_is)
    (case a18 => k_is); (case l18 => k_is); (case c18 => k_is); (case k18 => k_is)
    (case a19 => k_is); (case l19 => k_is); (case c19 => k_is); (case k19 => k_is)
    (case a20 => k_is); (case l20 => k_is); (case c20 => k_is); (case k20 => k_is)
    (case a21 => k_is); (case l21 => k_is); (case c21 => k_is); (case k21 => k_is)
    (case a23 => k_is); (case l23 => k_is); (case c23 => k_is); (case k23 => k_is)
    (case a24 => k_is); (case l24 => k_is); (case c24 => k_is); (case k24 => k_is)
    (case a25 => k_is); (case l25 => k_is); (case c25 => k_is); (case k25 => k_is)
    (case a26 => k_is); (case l26 => k_is); (case c26 => k_is); (case k26 => k_is)
    (case a27 => k_is); (case l27 => k_is); (case c27 => k_is); (case k27 => k_is)
    (case a28 => k_is); (case l28 => k_is); (case c28 => k_is); (case k28 => k_is)
    (case a29 => k_is); (case l29 => k_is); (case c29 => k_is); (case k29 => k_is)
    (case a30 => k_is); (case l30 => k_is); (case c30 => k_is); (case k30 => k_is)
    (case a31 => k_is); (case l31 => k_is); (case c31 => k_is); (case k31 => k_is)
    (case a32 => k_is); (case l32 => k_is); (case c32 => k_is); (case k32 => k_is)
    (case a33 => k_is); (case l33 => k_is); (case c33 => k_is); (case k33 => k_is)
    (case a34 => k_is); (case l34 => k_is); (case c34 => k_is); (case k34 => k_is)
    (case a35 => k_is); (case l35 => k_is); (case c35 => k_is); (case k35 => k_is)
    (case a36 => k_is); (case l36 => k_is); (case c36 => k_is); (case k36 => k_is)
    (case a37 => k_is); (case l37 => k_is); (case c37 => k_is); (case k37 => k_is)
    (case a38 => k_is); (case l38 => k_is); (case c38 => k_is); (case k38 => k_is)
    (case a39 => k_is); (case l39 => k_is); (case c39 => k_is); (case k39 => k_is)
    (case a40 => k_is); (case l40 => k_is); (case c40 => k_is); (case k40 => k_is)
    (case z0 => k_is); (case z1 => k_is); (case z2 => k_is); (case z3 => k_is); (case z4 => k_is); (case z5 => k_is); (case z6 => k_is); (case z7 => k_is); (case z8 => k_is); (case z9 => k_is); (case z10 => k_is); (case z11 => k_is); (case z12 => k_is); (case z13 => k_is); (case z14 => k_is); (case z15 => k_is); (case z16 => k_is); (case z17 => k_is)
