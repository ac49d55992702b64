import PyProof.Rows.All
import Wide.All
import OpenK.AllK
import Wide.FinOn
import HandS.ForMost
import HandS.Deep
import HandS.IsInst
import HandS.StrMore
import HandS.Walk
import KE.LtData
import KE.SortData
import HandS.TupSets
import HandS.SetKeys
import KE.KSetAt
import HandS.DictComp
import HandS.Zip
import KE.GoesMore
import PyProof.EnumMake
import HandS.Conv
import PyProof.TupleOfStr
import KE.KDictZip
import KE.KDictItemsList
import PyProof.ListNew
import HandS.Flow
import HandS.Style
import HandS.NoneIn
import HandS.TupAny
import HandS.ListItems
import PySem.Challenge.RW_lastfords_k17_pairs_and_lots
set_option Elab.async false
set_option linter.all false
set_option maxRecDepth 100000
set_option maxHeartbeats 4000000
namespace Lf
open PySem PySem.Spec PyProof.Rows L2

/-! ## heaps: all but one address -/
def hide (u : Addr) (H : Hp) : Hp := fun b => if b = u then none else H b
theorem hide_ne {u b : Addr} {H : Hp} (h : b ≠ u) : hide u H b = H b := if_neg h
theorem hide_at {u : Addr} {H : Hp} : hide u H u = none := if_pos rfl
theorem hide_sub {u : Addr} {H : Hp} : Same (hide u H) H := fun b o e => by
  unfold hide at e
  split at e
  · cases e
  · exact e
theorem hide_in {u b : Addr} {H : Hp} {o : HO} (h : b ≠ u) (e : H b = some o) : hide u H b = some o := (hide_ne h).trans e
theorem hide_mono {u : Addr} {H H' : Hp} (e : Same H H') : Same (hide u H) (hide u H') := fun b o q => by
  unfold hide at q ⊢
  split at q
  · cases q
  · rename_i h
    rw [if_neg h]
    exact e _ _ q
theorem hide_upd {u : Addr} {H : Hp} {o : HO} : hide u (upd H u o) = hide u H := by
  funext b
  unfold hide upd
  split <;> rfl
theorem same_new {H : Hp} {p : Addr} (h : H p = none) (o : HO) : Same H (upd H p o) := fun b u q => by
  rw [upd_ne (ne_of_none q h)]
  exact q
/-- an object that was made meanwhile is written: what stood at first is as it was -/
theorem same_upd {H H1 : Hp} {p : Addr} (e : Same H H1) (h : H p = none) (o : HO) : Same H (upd H1 p o) := fun b u q => by
  rw [upd_ne (ne_of_none q h)]
  exact e _ _ q
theorem same_seqT {K : PySem.W.Frag} {H H' : Hp} {a : Addr} {xs : List V} (e : Same H H') (h : SqT K H a xs) : SqT K H' a xs := by
  rcases h with (h | ⟨o, h⟩) | h
  · exact .inl (.inl (e _ _ h))
  · exact .inl (.inr ⟨o, e _ _ h⟩)
  · exact .inr h

/-! ## data that stand in the heap -/
mutual
inductive Dd (H : Hp) : V → PyData → Prop
  | non : Dd H .non .none
  | bl (b : Bool) : Dd H (.bl b) (.bool b)
  | int (i : Int) : Dd H (.int i) (.int i)
  | str (x : Str) : Dd H (.str x) (.str x)
  | lst {a : Addr} {xs : List V} {ds : List PyData} : H a = some (.lst xs) → DdAll H xs ds → Dd H (.ref a) (.list ds)
  | tup {a : Addr} {xs : List V} {ds : List PyData} : H a = some (.tup xs) → DdAll H xs ds → Dd H (.ref a) (.tuple ds)
inductive DdAll (H : Hp) : List V → List PyData → Prop
  | nil : DdAll H [] []
  | cons {v : V} {vs : List V} {d : PyData} {ds : List PyData} : Dd H v d → DdAll H vs ds → DdAll H (v :: vs) (d :: ds)
end
mutual
theorem Dd.mono {H H' : Hp} (e : Same H H') : ∀ {d : PyData} {v : V}, Dd H v d → Dd H' v d
  | .none, _, h => by cases h; exact .non
  | .bool _, _, h => by cases h; exact .bl _
  | .int _, _, h => by cases h; exact .int _
  | .str _, _, h => by cases h; exact .str _
  | .list ds, _, h => by
    cases h with
    | lst h1 h2 => exact .lst (e _ _ h1) (DdAll.mono e h2)
  | .tuple ds, _, h => by
    cases h with
    | tup h1 h2 => exact .tup (e _ _ h1) (DdAll.mono e h2)
  | .dict _, _, h => by cases h
theorem DdAll.mono {H H' : Hp} (e : Same H H') : ∀ {ds : List PyData} {vs : List V}, DdAll H vs ds → DdAll H' vs ds
  | [], _, h => by cases h; exact .nil
  | _ :: _, _, h => by
    cases h with
    | cons h1 h2 => exact .cons (Dd.mono e h1) (DdAll.mono e h2)
end
mutual
theorem Dd.dp {K : PySem.W.Frag} {H : Hp} : ∀ {d : PyData} {v : V}, Dd H v d → Dp K H v d
  | .none, _, h => by cases h; exact .non
  | .bool _, _, h => by cases h; exact .bl _
  | .int _, _, h => by cases h; exact .int _
  | .str _, _, h => by cases h; exact .str _
  | .list ds, _, h => by
    cases h with
    | lst h1 h2 => exact .lst (.of h1) (DdAll.dp h2)
  | .tuple ds, _, h => by
    cases h with
    | tup h1 h2 => exact .tup (.of h1) (DdAll.dp h2)
  | .dict _, _, h => by cases h
theorem DdAll.dp {K : PySem.W.Frag} {H : Hp} : ∀ {ds : List PyData} {vs : List V}, DdAll H vs ds → DpAll K H vs ds
  | [], _, h => by cases h; exact .nil
  | _ :: _, _, h => by
    cases h with
    | cons h1 h2 => exact .cons (Dd.dp h1) (DdAll.dp h2)
end
theorem DdAll.length {H : Hp} : ∀ {ds : List PyData} {vs : List V}, DdAll H vs ds → vs.length = ds.length
  | [], _, h => by cases h; rfl
  | _ :: _, _, h => by
    cases h with
    | cons h1 h2 => exact congrArg (· + 1) (DdAll.length h2)
theorem DdAll.get {H : Hp} : ∀ {ds : List PyData} {vs : List V} {i : Nat} {v : V}, DdAll H vs ds → vs[i]? = some v → ∃ d, ds[i]? = some d ∧ Dd H v d
  | [], _, i, v, h, e => by cases h; simp at e
  | d :: ds, _, 0, v, h, e => by
    cases h with
    | cons h1 h2 =>
      simp at e
      subst e
      exact ⟨d, rfl, h1⟩
  | d :: ds, _, i + 1, v, h, e => by
    cases h with
    | cons h1 h2 =>
      simp at e
      obtain ⟨d', q1, q2⟩ := DdAll.get h2 e
      exact ⟨d', by simpa using q1, q2⟩
theorem DdAll.get' {H : Hp} {ds : List PyData} {vs : List V} {i : Nat} {d : PyData} (h : DdAll H vs ds) (e : ds[i]? = some d) : ∃ v, vs[i]? = some v ∧ Dd H v d := by
  have hl := h.length
  obtain ⟨hi, _⟩ := List.getElem?_eq_some_iff.mp e
  have hv : vs[i]? = some vs[i] := List.getElem?_eq_getElem (by omega)
  obtain ⟨d', q1, q2⟩ := h.get hv
  rw [e] at q1
  cases q1
  exact ⟨_, hv, q2⟩
theorem DdAll.append {H : Hp} : ∀ {ds es : List PyData} {vs ws : List V}, DdAll H vs ds → DdAll H ws es → DdAll H (vs ++ ws) (ds ++ es)
  | [], _, _, _, h, k => by cases h; exact k
  | _ :: _, _, _, _, h, k => by
    cases h with
    | cons h1 h2 => exact .cons h1 (DdAll.append h2 k)
theorem DdAll.take {H : Hp} : ∀ {ds : List PyData} {vs : List V} (n : Nat), DdAll H vs ds → DdAll H (vs.take n) (ds.take n)
  | _, _, 0, _ => .nil
  | [], _, n + 1, h => by cases h; exact .nil
  | _ :: _, _, n + 1, h => by
    cases h with
    | cons h1 h2 => exact .cons h1 (DdAll.take n h2)
theorem DdAll.drop {H : Hp} : ∀ {ds : List PyData} {vs : List V} (n : Nat), DdAll H vs ds → DdAll H (vs.drop n) (ds.drop n)
  | _, _, 0, h => h
  | [], _, n + 1, h => by cases h; exact .nil
  | _ :: _, _, n + 1, h => by
    cases h with
    | cons h1 h2 => exact DdAll.drop n h2
theorem DdAll.of_mem {H : Hp} {vs : List V} (h : ∀ v ∈ vs, ∃ d, Dd H v d) : ∃ ds, DdAll H vs ds := by
  induction vs with
  | nil => exact ⟨[], .nil⟩
  | cons v vs ih =>
    obtain ⟨d, hd⟩ := h v List.mem_cons_self
    obtain ⟨ds, hds⟩ := ih fun w hw => h w (List.mem_cons_of_mem _ hw)
    exact ⟨d :: ds, .cons hd hds⟩

/-! ## data of bounded depth and size -/
def wf : Nat → PyData → Bool
  | _, .none => true
  | _, .bool _ => true
  | _, .int _ => true
  | _, .str x => PySem.PyData.canLay0 (.str x) && decide (x.length ≤ 1000)
  | n + 1, .list ds => decide (ds.length ≤ 1000) && ds.all (wf n)
  | n + 1, .tuple ds => decide (ds.length ≤ 1000) && ds.all (wf n)
  | _, _ => false
theorem wf_str {n : Nat} {x : Str} (h : wf n (.str x) = true) : PySem.PyData.canLay0 (.str x) = true ∧ x.length ≤ 1000 := by
  cases n <;> (simp only [wf, Bool.and_eq_true, decide_eq_true_eq] at h; exact h)
theorem wf_tuple {n : Nat} {ds : List PyData} (h : wf n (.tuple ds) = true) : ∃ m, n = m + 1 ∧ ds.length ≤ 1000 ∧ ∀ d ∈ ds, wf m d = true := by
  cases n with
  | zero => simp [wf] at h
  | succ m =>
    simp only [wf, Bool.and_eq_true, decide_eq_true_eq, List.all_eq_true] at h
    exact ⟨m, rfl, h.1, h.2⟩
theorem wf_list {n : Nat} {ds : List PyData} (h : wf n (.list ds) = true) : ∃ m, n = m + 1 ∧ ds.length ≤ 1000 ∧ ∀ d ∈ ds, wf m d = true := by
  cases n with
  | zero => simp [wf] at h
  | succ m =>
    simp only [wf, Bool.and_eq_true, decide_eq_true_eq, List.all_eq_true] at h
    exact ⟨m, rfl, h.1, h.2⟩
theorem depthAll_le {m : Nat} : ∀ {ds : List PyData}, (∀ d ∈ ds, d.depth ≤ m) → PyData.depthAll ds ≤ m
  | [], _ => by simp [PyData.depthAll]
  | d :: ds, h => by
    have h1 := h d List.mem_cons_self
    have h2 := depthAll_le (ds := ds) fun e he => h e (List.mem_cons_of_mem _ he)
    simp only [PyData.depthAll]
    omega
theorem layAll_of : ∀ {ds : List PyData}, (∀ d ∈ ds, d.canLay0 = true) → PyData.canLayAll0 ds = true
  | [], _ => by simp [PyData.canLayAll0]
  | d :: ds, h => by
    simp only [PyData.canLayAll0, Bool.and_eq_true]
    exact ⟨h d List.mem_cons_self, layAll_of fun e he => h e (List.mem_cons_of_mem _ he)⟩
theorem wf_lay : ∀ (n : Nat) (d : PyData), wf n d = true → d.canLay0 = true ∧ d.depth ≤ n
  | n, .none, _ => by simp [PyData.canLay0, PyData.depth]
  | n, .bool _, _ => by simp [PyData.canLay0, PyData.depth]
  | n, .int _, _ => by simp [PyData.canLay0, PyData.depth]
  | n, .str x, h => ⟨(wf_str h).1, by simp [PyData.depth]⟩
  | 0, .list _, h => by simp [wf] at h
  | 0, .tuple _, h => by simp [wf] at h
  | n + 1, .list ds, h => by
    obtain ⟨m, e, _, h2⟩ := wf_list h
    cases e
    have r : ∀ d ∈ ds, d.canLay0 = true ∧ d.depth ≤ n := fun d hd => wf_lay n d (h2 d hd)
    have q := depthAll_le fun d hd => (r d hd).2
    refine ⟨?_, ?_⟩
    · simp only [PyData.canLay0]
      exact layAll_of fun d hd => (r d hd).1
    · simp only [PyData.depth]
      omega
  | n + 1, .tuple ds, h => by
    obtain ⟨m, e, _, h2⟩ := wf_tuple h
    cases e
    have r : ∀ d ∈ ds, d.canLay0 = true ∧ d.depth ≤ n := fun d hd => wf_lay n d (h2 d hd)
    have q := depthAll_le fun d hd => (r d hd).2
    refine ⟨?_, ?_⟩
    · simp only [PyData.canLay0]
      exact layAll_of fun d hd => (r d hd).1
    · simp only [PyData.depth]
      omega
  | 0, .dict _, h => by simp [wf] at h
  | n + 1, .dict _, h => by simp [wf] at h
theorem wf_shaped {n : Nat} {d : PyData} (h : wf n d = true) (hn : n ≤ 60) : SeqAt.shaped d = true := by
  obtain ⟨h1, h2⟩ := wf_lay n d h
  show (d.canLay0 && decide (d.depth ≤ 64)) = true
  rw [Bool.and_eq_true]
  exact ⟨h1, decide_eq_true (by omega)⟩
theorem wf_mono : ∀ (n m : Nat) (d : PyData), n ≤ m → wf n d = true → wf m d = true
  | n, m, .none, _, _ => by cases m <;> rfl
  | n, m, .bool _, _, _ => by cases m <;> rfl
  | n, m, .int _, _, _ => by cases m <;> rfl
  | n, m, .str x, _, h => by
    obtain ⟨a, b⟩ := wf_str h
    cases m <;> simp only [wf, Bool.and_eq_true, decide_eq_true_eq] <;> exact ⟨a, b⟩
  | n, m, .list ds, hm, h => by
    obtain ⟨k, e, h1, h2⟩ := wf_list h
    cases m with
    | zero => omega
    | succ m =>
      simp only [wf, Bool.and_eq_true, decide_eq_true_eq, List.all_eq_true]
      exact ⟨h1, fun d hd => wf_mono k m d (by omega) (h2 d hd)⟩
  | n, m, .tuple ds, hm, h => by
    obtain ⟨k, e, h1, h2⟩ := wf_tuple h
    cases m with
    | zero => omega
    | succ m =>
      simp only [wf, Bool.and_eq_true, decide_eq_true_eq, List.all_eq_true]
      exact ⟨h1, fun d hd => wf_mono k m d (by omega) (h2 d hd)⟩
  | n, m, .dict _, _, h => by cases n <;> simp [wf] at h
termination_by n m d => n
decreasing_by all_goals omega

/-! ## the kind of a datum -/
def kindD : PyData → String
  | .none => "NoneType" | .bool _ => "bool" | .int _ => "int" | .str _ => "str" | .list _ => "list" | .tuple _ => "tuple" | .dict _ => "dict"
theorem Dd.ty {K : PySem.W.Frag} {H : Hp} {v : V} {d : PyData} (h : Dd H v d) : TyX K H v (.type (kindD d)) := by
  cases h with
  | non => exact .base .non
  | bl b => exact .base (.bl b)
  | int i => exact .base (.int i)
  | str x => exact .base (.str x)
  | lst h1 _ => exact .base (.lst h1)
  | tup h1 _ => exact .base (.tup h1)
def isTup : PyData → Bool | .tuple _ => true | _ => false
def isLst : PyData → Bool | .list _ => true | _ => false
def isStr : PyData → Bool | .str _ => true | _ => false
def isBl : PyData → Bool | .bool _ => true | _ => false
def isInt : PyData → Bool | .bool _ => true | .int _ => true | _ => false
def noDict : PyData → Bool | .dict _ => false | _ => true
theorem Dd.noDict {H : Hp} {v : V} {d : PyData} (h : Dd H v d) : noDict d = true := by cases h <;> rfl
theorem kit_tup {K : PySem.W.Frag} (d : PyData) : PySem.W.kitOne K (.type (kindD d)) (.type "tuple") = some (isTup d) := kit_ty (by cases d <;> (dsimp only [kindD, isTup]; decide +kernel))
theorem kit_lst {K : PySem.W.Frag} (d : PyData) : PySem.W.kitOne K (.type (kindD d)) (.type "list") = some (isLst d) := kit_ty (by cases d <;> (dsimp only [kindD, isLst]; decide +kernel))
theorem kit_str {K : PySem.W.Frag} (d : PyData) : PySem.W.kitOne K (.type (kindD d)) (.type "str") = some (isStr d) := kit_ty (by cases d <;> (dsimp only [kindD, isStr]; decide +kernel))
theorem kit_bl {K : PySem.W.Frag} (d : PyData) : PySem.W.kitOne K (.type (kindD d)) (.type "bool") = some (isBl d) := kit_ty (by cases d <;> (dsimp only [kindD, isBl]; decide +kernel))
theorem kit_int {K : PySem.W.Frag} (d : PyData) : PySem.W.kitOne K (.type (kindD d)) (.type "int") = some (isInt d) := kit_ty (by cases d <;> (dsimp only [kindD, isInt]; decide +kernel))

/-! ## operators on data -/
section
variable {X : Cx}
def rLtD (K : PySem.W.Frag) : R2 := fun x y H Q => ∃ d e, Dp K H x d ∧ Dp K H y e ∧ PySem.W.alike d e = true ∧ d ≠ .none ∧ d.depth ≤ 64 ∧ Q (.bl (PySem.W.dataLt d e)) H
theorem op_ltD (hu : X.A.units + 64 < cLine) : OpR X (compareOp .Lt) (rLtD X.K) := by
  intro pins s σ H x y v u Q I rx ry h
  obtain ⟨d, e, hd, he, al, hn, dep, q⟩ := h
  obtain ⟨as, r1⟩ := Dp.reads I d x v hd rx
  obtain ⟨bs, r2⟩ := Dp.reads I e y u he ry
  have R := PySem.W.rcLt_alike d e X.A s v u as bs r1 r2 al hn (by
    have := Nat.min_le_left d.depth e.depth
    omega)
  have z : wpAny (model X.prog X.w) X.A (compareOp .Lt v u) (EP X pins σ Q) X.xe s := R X.prog X.w X.xe (EP X pins σ Q) ⟨.bl _, H, I, rfl, q⟩
  exact z
def rNotInTD (K : PySem.W.Frag) : R2 := fun x y H Q => ∃ d ds, Dp K H x d ∧ Dp K H y (.tuple ds) ∧ SeqAt.shaped d = true ∧ SeqAt.shaped (.tuple ds) = true ∧ Q (.bl (!ds.any fun z => PyData.eqv z d)) H
theorem op_notInTD (hu : X.A.units + 65 < cLine) : OpR X (compareOp .NotIn) (rNotInTD X.K) := by
  intro pins s σ H x y v u Q I rx ry h
  obtain ⟨d, ds, hd, he, sd, se, q⟩ := h
  obtain ⟨as, r1⟩ := Dp.reads I d x v hd rx
  obtain ⟨bs, r2⟩ := Dp.reads I (.tuple ds) y u he ry
  exact SeqAt.notIn_tuple_reads r2 r1 (SeqAt.canLay_of_shaped se) (SeqAt.canLay_of_shaped sd) (room_in_shaped sd hu) ⟨.bl _, H, I, rfl, q⟩
end
theorem each_of {H : Hp} {K : PySem.W.Frag} {h : Heap} {F : V → PyData → Prop} {G : Value → PyData → Prop} (k : ∀ v d u, F v d → RelV v u → G u d) : ∀ {vs : List V} {ds : List PyData} {us : List Value},
    Paired F vs ds → Vals vs us → PySem.W.EachIs G us ds
  | [], _, _, h, r => by cases h; cases r; exact .nil
  | _ :: _, _, _, h, r => by
    cases h with
    | cons h1 h2 =>
      cases r with
      | cons r1 r2 => exact .cons (k _ _ _ h1 r1) (each_of (H := H) (K := K) (h := h) k h2 r2)
end Lf

set_option maxHeartbeats 4000000
namespace Lf
open PySem PySem.Spec PyProof.Rows L2

/-! ## sets of texts: added one by one -/
def keyS (e : Int × Value) : Str := match e.2 with | .str x _ => x | _ => ""
structure GoodS (w : World) (e : Int × Value) : Prop where
  ex : ∃ x tk, e.2 = Value.str x tk ∧ e.1 = hashStr w x
theorem GoodS.is {P : Program} {w : World} {e : Int × Value} (h : GoodS w e) (k : Str) : (strKind P w).is k e.2 = true ↔ keyS e = k := by
  obtain ⟨x, tk, e1, e2⟩ := h.ex
  unfold keyS
  rw [e1]
  show (Value.isStrOf k (.str x tk)) = true ↔ x = k
  simp only [Value.isStrOf]
  constructor
  · intro h
    exact (by simpa using h : _)
  · rintro rfl
    simp
theorem good_elemsS {P : Program} {w : World} {l : List (Int × Value)} (h : ∀ e ∈ l, GoodS w e) : ElemsOf (strKind P w) l := fun e he => by
  have g := h e he
  obtain ⟨x, tk, e1, e2⟩ := g.ex
  refine ⟨⟨x, ?_, e2⟩, ?_⟩
  · rw [g.is (P := P)]
    unfold keyS
    rw [e1]
  · rw [e1]
    rfl
structure SetS1 (w : World) (es : Array (Int × Value)) (t : SetTable) (l : List Str) : Prop where
  good : ∀ e ∈ es.toList, GoodS w e
  keys : (es.toList.map keyS).Perm l
  nd : l.Nodup
  few : l.length < scanBound
  fit : t.fits es.size = true
  ris : Ris t.place.toList
  led : w.params.followText "set-order" = true ∨ t.led = true
theorem SetS1.size {w : World} {es : Array (Int × Value)} {t : SetTable} {l : List Str} (h : SetS1 w es t l) : es.size = l.length := by
  rw [← h.keys.length_eq, List.length_map, Array.length_toList]
structure SetS (w : World) (h : Heap) (a : Addr) (l : List Str) : Prop where
  ex : ∃ o es ep t, h.get? a = some o ∧ o.ExactSet ∧ o.data = Data.set es ep t ∧ SetS1 w es t l
theorem SetS.at {w : World} {h h' : Heap} {a : Addr} {l : List Str} (g : SetS w h a l) (k : ∀ o, h.get? a = some o → h'.get? a = some o) : SetS w h' a l := by
  obtain ⟨o, es, ep, t, h1, h2, h3, h4⟩ := g.ex
  exact ⟨o, es, ep, t, k _ h1, h2, h3, h4⟩
theorem SetS1.perm {w : World} {es : Array (Int × Value)} {t : SetTable} {l l' : List Str} (h : SetS1 w es t l) (p : l.Perm l') : SetS1 w es t l' :=
  ⟨h.good, h.keys.trans p, p.nodup_iff.mp h.nd, by rw [← p.length_eq]; exact h.few, h.fit, h.ris, h.led⟩
theorem setS_tail {P : Program} {w : World} {A : Around} {E : Value → Shared → Prop} {s : Shared} {a : Addr} {g : Bool → Sem Unit}
    (hg : ∀ (b : Bool) (s₁ : Shared) (Q' : Unit → Shared → Prop), Q' () s₁ → wpAny (model P w) A (g b) Q' E s₁)
    {o : Obj} {es : Array (Int × Value)} {ep : Nat} {t : SetTable} (ho : s.heap.get? a = some o) (hx : o.ExactSet) (hd : o.data = Data.set es ep t)
    {es1 : Array (Int × Value)} {t2 : SetTable} {l : List Str} (h1 : SetS1 w es1 t2 l) {wasDummy : Bool} {R : Option Bool → Shared → Prop}
    (k : ∀ h', Heap.SameBut a s.heap h' → SetS w h' a l → R (some true) { heap := h', gens := s.gens, drawn := s.drawn, toks := s.toks, os := s.os }) :
    wpAny (model P w) A (do
      storeSet a es1 t2
      if (!wasDummy && t2.tooFull) = true then do
        g (relayAll t2 es1 (SetTable.grown es1.size)).snd.snd
        storeSet a (relayAll t2 es1 (SetTable.grown es1.size)).fst (relayAll t2 es1 (SetTable.grown es1.size)).snd.fst
        pure (some true)
      else pure (some true)) R E s := by
  have sz : es1.size < scanBound := by rw [h1.size]; exact h1.few
  refine wpAny_bind (wpAny_storeSet_of ho hd ?_ (fits_of_scanBound sz))
  have at1 := store_at (es' := es1) (t' := t2) ho hd
  have sb : Heap.SameBut a s.heap (s.heap.update a (Obj.putSet es1 t2)) := Heap.SameBut.update _ _ _
  by_cases c : (!wasDummy && t2.tooFull) = true
  · rw [if_pos c]
    have p := relayAll_perm t2 es1 (SetTable.grown es1.size)
    have f := relayAll_fits t2 es1 (SetTable.grown es1.size)
    have r := relayAll_ris t2 es1 (SetTable.grown es1.size)
    have ld := relayAll_led t2 es1 (SetTable.grown es1.size)
    generalize relayAll t2 es1 (SetTable.grown es1.size) = z at p f r ld ⊢
    obtain ⟨es3, t3, gv⟩ := z
    dsimp only at p f r ld ⊢
    have s3 : SetS1 w es3 t3 l := ⟨fun e he => h1.good e (p.mem_iff.mp he), (p.map keyS).trans h1.keys, h1.nd, h1.few, f, r, h1.led.imp id fun z => ld.trans z⟩
    have sz3 : es3.size < scanBound := by rw [s3.size]; exact h1.few
    refine wpAny_bind (hg _ _ _ (wpAny_bind (wpAny_storeSet_of at1 rfl (wpAny_pure (k _ (sb.trans (Heap.SameBut.update _ _ _)) ⟨_, _, _, _, store_at (es' := es3) (t' := t3) at1 rfl, ?_, rfl, s3⟩)) (fits_of_scanBound sz3))))
    exact ⟨hx.1, hx.2.1, hx.2.2⟩
  · rw [if_neg c]
    exact wpAny_pure (k _ sb ⟨_, _, _, _, at1, ⟨hx.1, hx.2.1, hx.2.2⟩, rfl, h1⟩)
theorem isS {P : Program} {w : World} (k : Str) (tk : Tok) : (PySem.strKind P w).is k (.str k tk) = true := by
  show (Value.isStrOf k (.str k tk)) = true
  simp [Value.isStrOf]
theorem gw_any {M : Model} {A : Around} {E : Value → Shared → Prop} (b : Bool) (s : Shared) (Q' : Unit → Shared → Prop) (h : Q' () s) :
    wpAny M A (match b with | true => rule "set.scan.the-table-gave-way" | false => pure ()) Q' E s := by
  cases b
  · exact wpAny_pure h
  · exact wpAny_rule h
theorem setS_add {P : Program} {w : World} {A : Around} {E : Value → Shared → Prop} {s : Shared} {a : Addr} {l : List Str} {k : Str} {tk : Tok} {Q : Bool → Shared → Prop}
    (h : SetS w s.heap a l) (hn : l.length + 1 < scanBound)
    (q : ∀ b h', Heap.SameBut a s.heap h' → SetS w h' a (if k ∈ l then l else k :: l) → Q b { heap := h', gens := s.gens, drawn := s.drawn, toks := s.toks, os := s.os }) :
    wpAny (model P w) A (setAddHashed a (.str k tk) (hashStr w k)) Q E s := by
  obtain ⟨o, es, ep, t, ho, hx, hd, g⟩ := h.ex
  have el := good_elemsS (P := P) g.good
  have sz : es.size < scanBound := by rw [g.size]; exact g.few
  refine wpAny_holding ?_
  show wpAny _ _ (setAddHashedIn a (.str k tk) (hashStr w k) (99999 + 1)) _ _ _
  rw [setAddHashedIn_succ]
  refine wpAny_bind (wpAny_setState_of ho hd g.fit ?_)
  dsimp only
  refine wp_if_pos (byScan_of (knd := strKind P w) rfl sz el) ?_
  refine wpAny_bind ?_
  unfold setAddByScan
  refine wpAny_bind (wpAny_rule (wpAny_bind ?_))
  refine wpAny_setScan_of (knd := strKind P w) (k := k) (x := .str k tk) (isS k tk) ho hd g.fit el ?_
  have mem : k ∈ l ↔ ∃ e ∈ es.toList, keyS e = k := by
    rw [← g.keys.mem_iff]
    simp only [List.mem_map]
  cases hf : List.findIdx? (fun e => (strKind P w).is k e.2) es.toList with
  | some j =>
    dsimp only
    have hm : k ∈ l := by
      rw [mem]
      obtain ⟨hj, hk, _⟩ := List.findIdx?_eq_some_iff_getElem.mp hf
      exact ⟨_, List.getElem_mem hj, ((g.good _ (List.getElem_mem hj)).is (P := P) k).mp hk⟩
    refine wpAny_pure (wpAny_pure (q _ _ (Heap.SameBut.refl _ _) ?_))
    rw [if_pos hm]
    exact ⟨o, es, ep, t, ho, hx, hd, g⟩
  | none =>
    dsimp only
    have hm : k ∉ l := by
      rw [mem]
      rintro ⟨e, he, hk⟩
      have z := List.findIdx?_eq_none_iff.mp hf e he
      rw [((g.good e he).is (P := P) k).mpr hk] at z
      cases z
    have p := layNew_perm t es (hashStr w k) (.str k tk)
    have f := layNew_fits t es (hashStr w k) (.str k tk)
    have r := layNew_ris t es (hashStr w k) (.str k tk) g.ris
    have ld := layNew_led t es (hashStr w k) (.str k tk)
    generalize layNew t es (hashStr w k) (.str k tk) = z at p f r ld ⊢
    obtain ⟨es1, t1, wd, gv⟩ := z
    dsimp only at p f r ld ⊢
    have p' : es1.toList.Perm ((hashStr w k, Value.str k tk) :: es.toList) := by
      refine p.trans ?_
      rw [Array.toList_push]
      exact List.perm_append_singleton _ _
    have g1 : ∀ t2, t2.fits es1.size = true → Ris t2.place.toList → t2.led = t1.led → SetS1 w es1 t2 (k :: l) := fun t2 f2 r2 l2 =>
      ⟨fun e he => by
        rcases List.mem_cons.mp (p'.mem_iff.mp he) with rfl | he
        · exact ⟨k, tk, rfl, rfl⟩
        · exact g.good e he, (p'.map keyS).trans (List.Perm.cons _ g.keys), List.nodup_cons.mpr ⟨hm, g.nd⟩, by rw [List.length_cons]; exact hn, f2, r2, g.led.imp id fun z => l2.trans (ld.trans z)⟩
    refine wpAny_bind (gw_any gv s _ ?_)
    by_cases pl : t1.plain = true
    · rw [if_pos pl, hashByValue_scannable (x := .str k tk) 8 rfl]
      have g2 := g1 { mask := t1.mask, place := t1.place, dummies := t1.dummies, finger := t1.finger, led := t1.led, moves := t1.moves, plain := false } (SetTable.fits_plain_off f) r rfl
      refine wpAny_bind (wpAny_pure ?_)
      rw [if_neg (show ¬ (plainKind (Value.str k tk) = true) from Bool.false_ne_true)]
      refine setS_tail (fun b s₁ Q' hq => gw_any b s₁ Q' hq) ho hx hd g2 fun h' sb gs => wpAny_pure (q _ _ sb ?_)
      rw [if_neg hm]
      exact gs
    · rw [if_neg pl]
      refine wpAny_bind (wpAny_pure ?_)
      rw [if_pos rfl]
      refine setS_tail (fun b s₁ Q' hq => gw_any b s₁ Q' hq) ho hx hd (g1 t1 f r rfl) fun h' sb gs => wpAny_pure (q _ _ sb ?_)
      rw [if_neg hm]
      exact gs
end Lf

set_option maxHeartbeats 4000000
namespace Lf
open PySem PySem.Spec PyProof.Rows L2
/-- set(things): one after another is added, what holds of the set being told by the one who calls -/
theorem set_update_by {P : Program} {w : World} {A : Around} {I : Addr} {fp wr : List Addr} {G : Array GenState → Array GenState → Prop} {n : Nat} {Pv : Nat → Value → Prop}
    {St : Nat → Shared → Prop} {R : Result → Shared → Prop} (hw : WalksS P w A.in1 I fp wr G n Pv St) (S : Addr) (hS : S ∉ fp) (Iv : Nat → Heap → Prop)
    (hk : ∀ i h h', Iv i h → (∀ b o, b ∉ wr → h.get? b = some o → h'.get? b = some o) → Iv i h')
    (step : ∀ i v (s : Shared) (E : Value → Shared → Prop) (Q : Bool → Shared → Prop), i < n → Pv i v → Iv i s.heap →
      (∀ b h' tk, s.toks ≤ tk → Heap.SameBut S s.heap h' → Iv (i + 1) h' → Q b { heap := h', gens := s.gens, drawn := s.drawn, toks := tk, os := s.os }) →
      wpAny (model P w) A.in1 (setAdd S v) Q E s) :
    ∀ (k i : Nat) (s : Shared), n - i = k → i ≤ n → St i s → Iv i s.heap →
      (∀ s', Moved (S :: wr) G s s' → Iv n s'.heap → R (Except.ok (Flow.ret Value.none)) s') →
      codeAny (model P w) A (Code.builtin "set.update.loop" { pos := [Value.ref S, Value.ref I] }) R s
  | 0, i, s, e, hi, st, iv, fin => by
    obtain rfl : i = n := by omega
    refine codeAny_builtin PyProof.Rows.F.entry_set_update_loop ?_
    rw [Around.under_plainId PyProof.Rows.F.plain_set_update_loop]
    unfold Builtin.«set.update.loop»
    dsimp only
    refine wpAny_bind (hw.done s _ _ st fun s' mv => ?_)
    dsimp only
    exact wpAny_pure (fin s' (mv.mono fun b hb => List.mem_cons_of_mem _ hb) (hk _ _ _ iv mv.heap))
  | k + 1, i, s, e, hi, st, iv, fin => by
    have hi' : i < n := by omega
    refine codeAny_builtin PyProof.Rows.F.entry_set_update_loop ?_
    rw [Around.under_plainId PyProof.Rows.F.plain_set_update_loop]
    unfold Builtin.«set.update.loop»
    dsimp only
    refine wpAny_bind (hw.item i s _ _ hi' st fun v s1 pv st1 mv => ?_)
    dsimp only
    refine wpAny_bind (wpAny_holding (step i v s1 _ _ hi' pv (hk _ _ _ iv mv.heap) fun b h' tk ht sb iv' => ?_))
    refine wpAny_pure ⟨plainId_quiet PyProof.Rows.F.plain_set_update_loop _, ?_⟩
    refine set_update_by hw S hS Iv hk step k (i + 1) _ (by omega) hi' (hw.frame (i + 1) s1 h' tk st1 ht fun b hb o ho => (sb.2 b fun z => hS (z ▸ hb)).trans ho) iv' fun s' mv' q => fin s' ?_ q
    refine Moved.trans hw.gtrans ((mv.mono fun b hb => List.mem_cons_of_mem _ hb).then_heap ht fun b o nb ho => ?_) mv'
    exact (sb.2 b fun z => nb (z ▸ List.mem_cons_self)).trans ho
end Lf

set_option maxHeartbeats 4000000
namespace Lf
open PySem PySem.Spec PyProof.Rows L2
abbrev setNew (w : World) : Obj := { cls := Value.type "set", data := Data.set #[] 0 (SetTable.fresh 0 0 !w.params.followText "set-order") }
theorem call_set_by {P : Program} {w : World} {A : Around} {E : Value → Shared → Prop} {s : Shared} {l : Addr} {T : String} {Q : Value → Shared → Prop}
    (hT0 : s.TypeIs (.ref l) T) (hs : isSubtype (.type T) (.type "set") = pure false) (hf : isSubtype (.type T) (.type "frozenset") = pure false) (hd : (Value.type T == Value.type "dict") = false)
    (hT1 : Shared.TypeIs { heap := s.heap.push (setNew w), gens := s.gens, drawn := s.drawn, toks := s.toks, os := s.os } (.ref l) T)
    (k : wpAny (model P w) A.in1.in1 (pyIter (.ref l)) (fun it s2 => wpAny (model P w) A.in1.in1 (runValue (Code.builtin "set.update.loop" { pos := [.ref s.heap.objs.size, it] })) (fun r s3 => Q (.ref s.heap.objs.size) s3) E s2) E
      { heap := s.heap.push (setNew w), gens := s.gens, drawn := s.drawn, toks := s.toks, os := s.os }) :
    wpAny (model P w) A (call (.type "set") [.ref l]) Q E s := by
  obtain ⟨c, tl, hmro⟩ := F.called_set.mro
  have hmade := F.called_set.made
  have hsub := F.called_set.sub
  have hct := F.typeCall_set_1 (Value.ref l)
  refine wpAny_call (codeAny_of_tree ?_)
  refine wpAny_pure ⟨Code.quiet_builtin _ (by decide +kernel), codeAny_builtin F.entry_type_call ?_⟩
  rw [show Around.under A (Code.builtin "type.__call__" { pos := Value.type "set" :: ({ pos := [Value.ref l] } : Args).pos }) = A.in1 from Around.under_plain (weight_type_call_type "set" [.ref l] []) rfl]
  unfold Builtin.«type.__call__»
  dsimp only
  refine wpAny_ite_false (by decide +kernel) (wpAny_ite_false (by decide +kernel) (wpAny_bind (wpAny_of_eq hct ?_)))
  refine wpAny_bind (wpAny_of_eq hmro ?_)
  refine wpAny_ite_false rfl ?_
  refine wpAny_bind (wpAny_of_eq hmade ?_)
  dsimp only
  refine wpAny_bind (wpAny_pure (wpAny_bind (wpAny_holding (wpAny_call (codeAny_mono (code_set_led1 (E := E) (.ref l) (Q₁ := fun v s₁ => v = .ref s.heap.objs.size ∧ s₁ = { heap := s.heap.push (setNew w), gens := s.gens, drawn := s.drawn, toks := s.toks, os := s.os }) ⟨rfl, rfl⟩) (fun (r : Result) s₁ (hr : wants _ E r s₁) => ?_))))))
  rcases r with e | f
  · exact hr
  · cases f with
    | ret v =>
      obtain ⟨rfl, rfl⟩ := hr
      dsimp only
      have hS : (s.heap.push (setNew w)).get? s.heap.objs.size = some (setNew w) := Heap.get?_push_size _ rfl
      have hT : Shared.TypeIs { heap := s.heap.push (setNew w), gens := s.gens, drawn := s.drawn, toks := s.toks, os := s.os } (.ref s.heap.objs.size) "set" := ⟨_, hS, rfl⟩
      refine wpAny_bind (wpAny_isInstance hT hsub (wpAny_ite_false (by decide +kernel) (wpAny_bind (wpAny_holding ?_))))
      refine wpAny_callSpecial?_slot hT F.called_set.init ?_
      refine wpAny_call (codeAny_call_builtin F.called_set.init.plain F.entry_set_init (check_set_init_1 hT ?_))
      unfold Builtin.«set.__init__»
      dsimp only
      refine wpAny_bind (wpAny_ite_true rfl (wpAny_pure ?_))
      refine wpAny_bind ?_
      unfold typeNameOfCut
      refine wpAny_bind ?_
      unfold shownTypeOf
      refine wpAny_bind (wpAny_typeOf hT ?_)
      refine wpAny_ite_false (by decide +kernel) (wpAny_pure ?_)
      unfold typeNameCut
      dsimp only
      unfold typeName
      dsimp only
      refine wpAny_pure (wpAny_bind ?_)
      unfold checkCount
      refine wpAny_ite_false rfl (wpAny_ite_false rfl (wpAny_ite_false rfl (wpAny_pure ?_)))
      refine wpAny_bind (wpAny_pure ?_)
      refine wpAny_bind ?_
      unfold setUsed
      refine wpAny_bind (wpAny_setState_of hS rfl rfl (wpAny_pure ?_))
      refine wpAny_ite_false rfl ?_
      refine wpAny_bind ?_
      unfold Builtin.Frozenset.updateFrom
      refine wpAny_bind ?_
      unfold Builtin.Frozenset.isAnySet orM
      refine wpAny_bind (wpAny_isInstance hT1 hs ?_)
      dsimp only
      refine wpAny_isInstance hT1 hf ?_
      refine wpAny_ite_false rfl (wpAny_bind (wpAny_typeOf hT1 ?_))
      rw [if_neg (by rw [hd]; exact Bool.false_ne_true)]
      refine wpAny_bind (wpAny_mono k (fun it s2 h2 => wpAny_bind (wpAny_mono h2 (fun r s3 h3 => ?_) fun _ _ h => h)) fun _ _ h => h)
      refine wpAny_pure (wpAny_pure ?_)
      dsimp only
      exact wpAny_ite_false rfl (wpAny_pure h3)
    | _ => exact hr
/-- set(list): what holds of the set is told by the one who calls -/
theorem set_list_by {P : Program} {w : World} {A : Around} {E : Value → Shared → Prop} {s : Shared} {l : Addr} {items : Array Value} {Q : Value → Shared → Prop}
    (hA : A.handled = none) (hl : s.heap.IsList l items) (Iv : Nat → Heap → Prop)
    (hk : ∀ i h h', Iv i h → (∀ b o, b ≠ s.heap.objs.size + 1 → h.get? b = some o → h'.get? b = some o) → Iv i h')
    (h0 : Iv 0 (s.heap.push (setNew w)))
    (step : ∀ i v (s1 : Shared) (E' : Value → Shared → Prop) (Q' : Bool → Shared → Prop), items[i]? = some v → Iv i s1.heap →
      (∀ b h' tk, s1.toks ≤ tk → Heap.SameBut s.heap.objs.size s1.heap h' → Iv (i + 1) h' → Q' b { heap := h', gens := s1.gens, drawn := s1.drawn, toks := tk, os := s1.os }) →
      wpAny (model P w) A.in1.in1.in1 (setAdd s.heap.objs.size v) Q' E' s1)
    (fin : ∀ h' tk, s.toks ≤ tk → (∀ b o, s.heap.get? b = some o → h'.get? b = some o) → Iv items.size h' → Q (.ref s.heap.objs.size) { heap := h', gens := s.gens, drawn := s.drawn, toks := tk, os := s.os }) :
    wpAny (model P w) A (call (.type "set") [.ref l]) Q E s := by
  have hl0 := hl
  obtain ⟨o, ho, hc, n, hd⟩ := hl
  have lt : l < s.heap.objs.size := Heap.lt_size ho
  refine call_set_by ⟨o, ho, hc⟩ F.sub_list_set F.sub_list_frozenset (by decide +kernel) ⟨o, Heap.get?_push_of_some _ ho, hc⟩ ?_
  refine wpAny_pyIter_list (hl0.push _) ?_
  dsimp only
  have sz : (s.heap.push (setNew w)).objs.size = s.heap.objs.size + 1 := Heap.size_push _ _
  rw [sz]
  refine wpAny_runValue ?_
  have ne : l ≠ s.heap.objs.size + 1 := Nat.ne_of_lt (Nat.lt_succ_of_lt lt)
  have W := Walks.toS (Walks.list (prog := P) (w := w) (A := A.in1.in1.in1) hA (s.heap.objs.size + 1) l ne items)
  refine set_update_by W s.heap.objs.size ?_ Iv ?_ ?_ items.size 0 _ (by omega) (Nat.zero_le _) ?_ ?_ ?_
  · intro m
    rcases List.mem_cons.mp m with h | h
    · exact absurd h (Nat.ne_of_lt (Nat.lt_succ_self _))
    · rcases List.mem_cons.mp h with h | h
      · exact absurd h (Nat.ne_of_gt lt)
      · cases h
  · intro i h h' iv k
    exact hk i h h' iv fun b o nb => k b o fun z => nb (List.mem_singleton.mp z)
  · exact fun i v s1 E' Q' _ pv iv q => step i v s1 E' Q' pv iv q
  · refine ⟨⟨{ cls := Value.type "list_iterator", data := Data.fields #[Value.ref l, Value.int 0 0] }, ?_, rfl, rfl⟩, (hl0.push _).push _⟩
    show ((s.heap.push (setNew w)).push _).get? (s.heap.objs.size + 1) = _
    rw [← sz]
    exact Heap.get?_push_size _ rfl
  · refine hk 0 _ _ h0 fun b o _ e => Heap.get?_push_of_some _ e
  · intro s' mv iv
    obtain ⟨h', g', d', t', os'⟩ := s'
    obtain ⟨m1, m2, m3, m4, m5⟩ := mv
    dsimp only at m1 m2 m3 m4 m5 iv ⊢
    subst m2 m3 m4
    refine fin h' t' m5 (fun b o' e => m1 b o' (fun m => ?_) (Heap.get?_push_of_some _ (Heap.get?_push_of_some _ e))) iv
    have lb : b < s.heap.objs.size := Heap.lt_size e
    rcases List.mem_cons.mp m with h | h
    · exact absurd h (Nat.ne_of_lt lb)
    · exact absurd (List.mem_singleton.mp h) (Nat.ne_of_lt (Nat.lt_succ_of_lt lb))
theorem set_tuple_by {P : Program} {w : World} {A : Around} {E : Value → Shared → Prop} {s : Shared} {l : Addr} {items : Array Value} {Q : Value → Shared → Prop}
    (hA : A.handled = none) (hl : s.heap.IsTuple l items) (Iv : Nat → Heap → Prop)
    (hk : ∀ i h h', Iv i h → (∀ b o, b ≠ s.heap.objs.size + 1 → h.get? b = some o → h'.get? b = some o) → Iv i h')
    (h0 : Iv 0 (s.heap.push (setNew w)))
    (step : ∀ i v (s1 : Shared) (E' : Value → Shared → Prop) (Q' : Bool → Shared → Prop), items[i]? = some v → Iv i s1.heap →
      (∀ b h' tk, s1.toks ≤ tk → Heap.SameBut s.heap.objs.size s1.heap h' → Iv (i + 1) h' → Q' b { heap := h', gens := s1.gens, drawn := s1.drawn, toks := tk, os := s1.os }) →
      wpAny (model P w) A.in1.in1.in1 (setAdd s.heap.objs.size v) Q' E' s1)
    (fin : ∀ h' tk, s.toks ≤ tk → (∀ b o, s.heap.get? b = some o → h'.get? b = some o) → Iv items.size h' → Q (.ref s.heap.objs.size) { heap := h', gens := s.gens, drawn := s.drawn, toks := tk, os := s.os }) :
    wpAny (model P w) A (call (.type "set") [.ref l]) Q E s := by
  have hl0 := hl
  obtain ⟨o, ho, hc, n, hd⟩ := hl
  have lt : l < s.heap.objs.size := Heap.lt_size ho
  have up : (s.heap.push (setNew w)).IsTuple l items := ⟨o, Heap.get?_push_of_some _ ho, hc, n, hd⟩
  refine call_set_by ⟨o, ho, hc⟩ F.sub_tuple_set F.sub_tuple_frozenset (by decide +kernel) ⟨o, Heap.get?_push_of_some _ ho, hc⟩ ?_
  refine wpAny_pyIter_tuple up ?_
  dsimp only
  have sz : (s.heap.push (setNew w)).objs.size = s.heap.objs.size + 1 := Heap.size_push _ _
  rw [sz]
  refine wpAny_runValue ?_
  have ne : l ≠ s.heap.objs.size + 1 := Nat.ne_of_lt (Nat.lt_succ_of_lt lt)
  have W := Walks.toS (Walks.tuple (prog := P) (w := w) (A := A.in1.in1.in1) hA (s.heap.objs.size + 1) l ne items)
  refine set_update_by W s.heap.objs.size ?_ Iv ?_ ?_ items.size 0 _ (by omega) (Nat.zero_le _) ?_ ?_ ?_
  · intro m
    rcases List.mem_cons.mp m with h | h
    · exact absurd h (Nat.ne_of_lt (Nat.lt_succ_self _))
    · rcases List.mem_cons.mp h with h | h
      · exact absurd h (Nat.ne_of_gt lt)
      · cases h
  · intro i h h' iv k
    exact hk i h h' iv fun b o nb => k b o fun z => nb (List.mem_singleton.mp z)
  · exact fun i v s1 E' Q' _ pv iv q => step i v s1 E' Q' pv iv q
  · refine ⟨⟨{ cls := Value.type "tuple_iterator", data := Data.fields #[Value.ref l, Value.int 0 0] }, ?_, rfl, rfl⟩, ⟨o, Heap.get?_push_of_some _ (Heap.get?_push_of_some _ ho), hc, n, hd⟩⟩
    show ((s.heap.push (setNew w)).push _).get? (s.heap.objs.size + 1) = _
    rw [← sz]
    exact Heap.get?_push_size _ rfl
  · refine hk 0 _ _ h0 fun b o _ e => Heap.get?_push_of_some _ e
  · intro s' mv iv
    obtain ⟨h', g', d', t', os'⟩ := s'
    obtain ⟨m1, m2, m3, m4, m5⟩ := mv
    dsimp only at m1 m2 m3 m4 m5 iv ⊢
    subst m2 m3 m4
    refine fin h' t' m5 (fun b o' e => m1 b o' (fun m => ?_) (Heap.get?_push_of_some _ (Heap.get?_push_of_some _ e))) iv
    have lb : b < s.heap.objs.size := Heap.lt_size e
    rcases List.mem_cons.mp m with h | h
    · exact absurd h (Nat.ne_of_lt lb)
    · exact absurd (List.mem_singleton.mp h) (Nat.ne_of_lt (Nat.lt_succ_of_lt lb))
end Lf

set_option maxHeartbeats 4000000
namespace Lf
open PySem PySem.Spec PyProof.Rows L2
def SetSO (w : World) (a : Addr) (l : List Str) : HO := .ext fun h => SetS w h a l
theorem setS_new {P : Program} {w : World} {H : Hp} {h : Heap} {a : Addr} {l : List Str} (g : SetS w h a l) : ObjOk P w H h a (SetSO w a l) := by
  refine ⟨g, ?_, fun h1 h2 g1 k => g1.at k⟩
  obtain ⟨o, es, ep, t, h1, _⟩ := g.ex
  exact ⟨o, h1⟩
theorem setS_get {X : Cx} {pins : List (Addr × Obj)} {σ : L2.St} {H : Hp} {s : Shared} {a : Addr} {l : List Str} (I : L2.Inv X pins σ H s) (e : H a = some (SetSO X.w a l)) : SetS X.w s.heap a l :=
  (I.hok _ _ e).1
theorem setS_fresh {w : World} {h : Heap} {a : Addr} (e : h.get? a = some (setNew w)) : SetS w h a [] :=
  ⟨_, _, _, _, e, ⟨rfl, rfl, rfl⟩, rfl, ⟨fun e he => (nomatch he), List.Perm.refl _, List.nodup_nil, by decide, rfl, List.Pairwise.nil, by
    cases w.params.followText "set-order"
    · exact .inr rfl
    · exact .inl rfl⟩⟩
theorem SetS.perm {w : World} {h : Heap} {a : Addr} {l l' : List Str} (g : SetS w h a l) (p : l.Perm l') : SetS w h a l' := by
  obtain ⟨o, es, ep, t, h1, h2, h3, h4⟩ := g.ex
  exact ⟨o, es, ep, t, h1, h2, h3, h4.perm p⟩
theorem SetS.nd {w : World} {h : Heap} {a : Addr} {l : List Str} (g : SetS w h a l) : l.Nodup := by
  obtain ⟨o, es, ep, t, h1, h2, h3, h4⟩ := g.ex
  exact h4.nd
/-- what stands in the set after so many of the texts -/
def IvS (w : World) (S : Addr) (ss : List Str) (i : Nat) (h : Heap) : Prop := ∃ ts, SetS w h S ts ∧ ts.length ≤ i ∧ ∀ x, x ∈ ts ↔ x ∈ ss.take i
theorem ivS_step {P : Program} {w : World} {A : Around} {S : Addr} {ss : List Str} {i : Nat} {x : Str} {tk : Tok} (hi : ss[i]? = some x) (hn : ss.length + 1 < scanBound)
    {s1 : Shared} {E' : Value → Shared → Prop} {Q' : Bool → Shared → Prop} (iv : IvS w S ss i s1.heap)
    (q : ∀ b h' tk, s1.toks ≤ tk → Heap.SameBut S s1.heap h' → IvS w S ss (i + 1) h' → Q' b { heap := h', gens := s1.gens, drawn := s1.drawn, toks := tk, os := s1.os }) :
    wpAny (model P w) A (setAdd S (.str x tk)) Q' E' s1 := by
  obtain ⟨ts, g, hl, hm⟩ := iv
  have hlt : i < ss.length := (List.getElem?_eq_some_iff.mp hi).1
  refine wpAny_holding (wpAny_bind (wpAny_pyHash_str ?_))
  refine setS_add (l := ts) g (by omega) fun b h' sb g' => q b h' (s1.toks + 1) (Nat.le_succ _) sb ⟨_, g', ?_, fun y => ?_⟩
  · split
    · omega
    · rw [List.length_cons]; omega
  · rw [L2.take_next hi, List.mem_append, List.mem_singleton, ← hm y]
    split
    · rename_i hx
      constructor
      · exact .inl
      · rintro (h | rfl)
        · exact h
        · exact hx
    · rw [List.mem_cons]
      exact Or.comm
section
variable {X : Cx}
def rSetOfS (K : PySem.W.Frag) (w : World) : List V → Hp → VK → Prop := fun xs H Q => ∃ (l : Addr) (ss : List Str), xs = [V.ref l] ∧ (SqL K H l (ss.map V.str) ∨ SqT K H l (ss.map V.str)) ∧ ss.length + 1 < scanBound ∧
  ∀ (a : Addr) (ts : List Str), H a = none → ts.Nodup → (∀ x, x ∈ ts ↔ x ∈ ss) → Q (.ref a) (upd H a (SetSO w a ts))
theorem valsStrAt : ∀ {ss : List Str} {us : List Value}, Vals (ss.map V.str) us → ∀ (i : Nat) (v : Value), us[i]? = some v → ∃ x tk, ss[i]? = some x ∧ v = Value.str x tk
  | [], us, h, i, v, e => by
    cases h
    cases e
  | x :: ss, us, h, i, v, e => by
    cases h with
    | cons r t =>
      cases i with
      | zero =>
        obtain ⟨tk, rfl⟩ := r
        cases e
        exact ⟨x, tk, rfl, rfl⟩
      | succ i => exact valsStrAt t i v e
theorem cr_setOfS (hc : X.calm = true) : CallR X (.type "set") (rSetOfS X.K X.w) := by
  intro pins s σ H xs us Q I r h
  obtain ⟨l, ss, rfl, hs, hn, q⟩ := h
  obtain ⟨u, rfl, ru⟩ := vals1 r
  obtain rfl : u = Value.ref l := ru
  have hA := I.ok.hd hc
  have fin : ∀ (n : Nat), n = ss.length → ∀ h' tk, s.toks ≤ tk → (∀ b o, s.heap.get? b = some o → h'.get? b = some o) → IvS X.w s.heap.objs.size ss n h' → EP X pins σ Q (.ref s.heap.objs.size) { heap := h', gens := s.gens, drawn := s.drawn, toks := tk, os := s.os } := by
    rintro n rfl h' tk ht ho ⟨ts, g, _, hm⟩
    rw [List.take_length] at hm
    exact ⟨.ref _, upd H s.heap.objs.size (SetSO X.w s.heap.objs.size ts), I.laid ho (Nat.le_refl _) (setS_new g), rfl, q _ ts (I.hok.fresh (Nat.le_refl _)) g.nd hm⟩
  have hk : ∀ i h h', IvS X.w s.heap.objs.size ss i h → (∀ b o, b ≠ s.heap.objs.size + 1 → h.get? b = some o → h'.get? b = some o) → IvS X.w s.heap.objs.size ss i h' := by
    rintro i h h' ⟨ts, g, k1, k2⟩ k
    exact ⟨ts, g.at fun o e => k _ o (Nat.ne_of_lt (Nat.lt_succ_self _)) e, k1, k2⟩
  have h0 : IvS X.w s.heap.objs.size ss 0 (s.heap.push (setNew X.w)) := ⟨[], setS_fresh (Heap.get?_push_size _ rfl), Nat.le_refl _, fun x => Iff.rfl⟩
  rcases hs with hs | hs
  · obtain ⟨its, rv, hl, hz⟩ := I.list hs
    have e : its.length = ss.length := by
      have := rv.length
      rw [List.length_map] at this
      exact this.symm
    refine set_list_by hA hl.isList (IvS X.w s.heap.objs.size ss) hk h0 (fun i v s1 E' Q' hi iv q' => ?_) (fin _ e)
    obtain ⟨x, tk, hx, rfl⟩ := valsStrAt rv i v (by simpa using hi)
    exact ivS_step hx hn iv q'
  · obtain ⟨its, rv, hl, hz⟩ := I.tuple hs
    have e : its.length = ss.length := by
      have := rv.length
      rw [List.length_map] at this
      exact this.symm
    refine set_tuple_by hA hl (IvS X.w s.heap.objs.size ss) hk h0 (fun i v s1 E' Q' hi iv q' => ?_) (fin _ e)
    obtain ⟨x, tk, hx, rfl⟩ := valsStrAt rv i v (by simpa using hi)
    exact ivS_step hx hn iv q'
end
end Lf

set_option maxHeartbeats 4000000
namespace Lf
open PySem PySem.Spec PyProof.Rows L2
mutual
theorem reads_mono {h h' : Heap} (k : ∀ b o, h.get? b = some o → h'.get? b = some o) : ∀ {v : Value} {d : PyData} {as : List Addr}, PySem.Reads h v d as → PySem.Reads h' v d as
  | _, _, _, .none => .none
  | _, _, _, .bool b => .bool b
  | _, _, _, .int i t => .int i t
  | _, _, _, .str x t => .str x t
  | _, _, _, .list a b c r => .list (k _ _ a) b c (readsAll_mono k r)
  | _, _, _, .tuple a b c r => .tuple (k _ _ a) b c (readsAll_mono k r)
  | _, _, _, .dict a b c r r' => .dict (k _ _ a) b c (readsAll_mono k r) (readsAll_mono k r')
theorem readsAll_mono {h h' : Heap} (k : ∀ b o, h.get? b = some o → h'.get? b = some o) : ∀ {vs : List Value} {ds : List PyData} {as : List Addr}, PySem.ReadsAll h vs ds as → PySem.ReadsAll h' vs ds as
  | _, _, _, .nil => .nil
  | _, _, _, .cons a b => .cons (reads_mono k a) (readsAll_mono k b)
end
theorem eachIs_self {α : Type} {R : α → α → Prop} : ∀ {l : List α}, (∀ x ∈ l, R x x) → PySem.W.EachIs R l l
  | [], _ => .nil
  | x :: l, h => .cons (h x List.mem_cons_self) (eachIs_self fun y hy => h y (List.mem_cons_of_mem _ hy))
theorem eachIs_eq {α : Type} : ∀ {l m : List α}, PySem.W.EachIs (fun a b => a = b) l m → l = m
  | _, _, .nil => rfl
  | _, _, .cons a b => by rw [a, eachIs_eq b]
theorem dataLe_total {β : Type} (enc : β → PyData) : PySem.W.TotalLe (PySem.W.dataLe false enc) := PySem.W.sortLe_total _ _ _
/-- sorted(set) of data -/
theorem sorted_set_raw {P : Program} {w : World} {A : Around} {E : Value → Shared → Prop} {s : Shared} {a : Addr} {es : Array (Int × Value)} {ep : Nat} {t : SetTable} {Q : Value → Shared → Prop}
    (hA : A.handled = none) (hat : L2.SetAt s.heap a es ep t) (fit : t.fits es.size = true) (few : es.size < scanBound) (ris : Ris t.place.toList)
    (led : w.params.followText "set-order" = true ∨ t.led = true) (enc : Value → PyData) (rd : ∀ v ∈ es.toList.map (·.2), PySem.Reads s.heap v (enc v) [])
    (al : PySem.W.AllAlike ((es.toList.map (·.2)).map enc)) (so : PySem.W.Sortable ((es.toList.map (·.2)).map enc)) (hd : ∀ v ∈ es.toList.map (·.2), A.units + 3 + (enc v).depth < cLine)
    (q : ∀ (s' : Shared) (p : Nat) (out : List Value) (c : Nat), (∀ b o, s.heap.get? b = some o → s'.heap.get? b = some o) → s'.gens = s.gens → s'.os = s.os → s.heap.objs.size ≤ p →
      s'.heap.get? p = some (PyProof.Rows.seqObj "list" out.toArray c) → out.Perm (es.toList.map (·.2)) → out.Pairwise (fun u v => PySem.W.dataLe false enc u v = true) → Q (.ref p) s') :
    wpAny (model P w) A (call (.builtin "sorted") [.ref a]) Q E s := by
  refine Calls.call_function_entry PyProof.Rows.kind_sorted PyProof.Rows.plain_sorted PyProof.Rows.entry_sorted (PyProof.Rows.args_sorted1 _) ?_
  unfold Builtin.sorted
  dsimp only
  refine wpAny_bind ?_
  unfold checkCount
  refine wpAny_ite_false rfl (wpAny_ite_false rfl (wpAny_ite_false rfl (wpAny_pure ?_)))
  refine wpAny_bind (collect_set (A := A.in1) hA hat fit few ris led fun s' out old sz g o p => ?_)
  have lo : out.length = es.size := by rw [p.length_eq, List.length_map, Array.length_toList]
  have sl : out.length ≤ sizeLine := by
    rw [lo, sizeLine_eq]
    have : scanBound = 4096 := rfl
    omega
  refine wpAny_bind (wpAny_newList ?_ sl)
  have hp : (s'.heap.push { cls := Value.type "list", data := Data.seq out.toArray }).get? s'.heap.objs.size = some (PyProof.Rows.seqObj "list" out.toArray 0) := Heap.get?_push_size _ rfl
  refine wpAny_bind (wpAny_holding (PySem.W.list_sort_data (bs := out) (enc := enc) (R := fun u b => u = b) hp (eachIs_self fun _ _ => rfl) (eachIs_self fun v hv => ⟨[], ?_, by simp⟩) ?_ ?_ sl ?_ fun o' lo' eo => ?_))
  · exact reads_mono (fun b u hb => Heap.get?_push_of_some _ (old b u hb)) (rd v (p.mem_iff.mp hv))
  · intro d hd1 d' hd2
    obtain ⟨v, hv, rfl⟩ := List.mem_map.mp hd1
    obtain ⟨v', hv', rfl⟩ := List.mem_map.mp hd2
    exact al _ (List.mem_map_of_mem (p.mem_iff.mp hv)) _ (List.mem_map_of_mem (p.mem_iff.mp hv'))
  · rcases so with so | so
    · left
      intro d hd1
      obtain ⟨v, hv, rfl⟩ := List.mem_map.mp hd1
      exact so _ (List.mem_map_of_mem (p.mem_iff.mp hv))
    · right
      intro d hd1
      obtain ⟨v, hv, rfl⟩ := List.mem_map.mp hd1
      exact so _ (List.mem_map_of_mem (p.mem_iff.mp hv))
  · intro v hv
    have := hd v (p.mem_iff.mp hv)
    have e : A.in1.units ≤ A.units + 1 := Nat.le_refl _
    omega
  · have eo' := eachIs_eq eo
    obtain ⟨e, he⟩ := PyProof.Rows.sortedHeap_at (out := o'.toArray) hp
    refine wpAny_pure ⟨_, rfl, q _ _ o' e (fun b u hb => ?_) g o sz he ?_ ?_⟩
    · have hb' := old b u hb
      have lb : b < s'.heap.objs.size := Heap.lt_size hb'
      show (PyProof.Rows.sortedHeap _ _ _ _).get? b = _
      rw [PyProof.Rows.sortedHeap_old (Nat.ne_of_lt lb) (by rw [Heap.size_push]; exact Nat.lt_succ_of_lt lb)]
      exact Heap.get?_push_of_some _ hb'
    · rw [eo']
      exact (List.mergeSort_perm _ _).trans p
    · rw [eo']
      exact PySem.W.sort_pairwise (dataLe_total enc) out
theorem inv_drawn {X : Cx} {pins : List (Addr × Obj)} {σ : L2.St} {H : Hp} {s s' : Shared} (I : L2.Inv X pins σ H s) (e : s'.heap = s.heap) (g : s'.gens = s.gens) (o : s'.os = s.os) : L2.Inv X pins σ H s' :=
  ⟨I.ok, o.trans I.os, g ▸ I.bare, e ▸ I.base, e ▸ I.loc, e ▸ I.cell, I.free, I.freeC, e ▸ I.pin, e ▸ I.hok, I.len⟩
/-- what is laid behind a call that also drew -/
theorem inv_laid {X : Cx} {pins : List (Addr × Obj)} {σ : L2.St} {H : Hp} {s s' : Shared} {a : Addr} {o : HO} (I : L2.Inv X pins σ H s) (old : ∀ b u, s.heap.get? b = some u → s'.heap.get? b = some u)
    (g : s'.gens = s.gens) (os : s'.os = s.os) (sz : s.heap.objs.size ≤ a) (k : ObjOk X.prog X.w (upd H a o) s'.heap a o) : L2.Inv X pins σ (upd H a o) s' :=
  inv_drawn (s := { heap := s'.heap, gens := s.gens, drawn := s.drawn, toks := s'.toks, os := s.os }) (I.laid old sz k) rfl g os
section
variable {X : Cx}
def encS (v : Value) : PyData := match v with | .str x _ => .str x | _ => .none
def ltS (x y : Str) : Bool := PySem.W.dataLt (.str x) (.str y)
def rSortedSt (w : World) : List V → Hp → VK → Prop := fun vs H Q => ∃ (a : Addr) (ts : List Str), vs = [V.ref a] ∧ H a = some (SetSO w a ts) ∧
  ∀ (ys : List Str) (p : Addr), ys.Perm ts → ys.Pairwise (fun x y => ltS y x = false) → H p = none → Q (.ref p) (upd H p (.lst (ys.map V.str)))
theorem strs_of : ∀ {out : List Value}, (∀ v ∈ out, ∃ x tk, v = Value.str x tk) → Vals ((out.map fun v => keyS (0, v)).map V.str) out
  | [], _ => .nil
  | v :: out, h => by
    obtain ⟨x, tk, rfl⟩ := h _ List.mem_cons_self
    exact .cons ⟨tk, rfl⟩ (strs_of fun v hv => h v (List.mem_cons_of_mem _ hv))
theorem cr_sortedSt (hc : X.calm = true) (hu : X.A.units + 64 < cLine) : CallR X (.builtin "sorted") (rSortedSt X.w) := by
  intro pins s σ H vs us Q I r h
  obtain ⟨a, ts, rfl, ha, q⟩ := h
  obtain ⟨u, rfl, ru⟩ := vals1 r
  obtain rfl : u = Value.ref a := ru
  obtain ⟨o, es, ep, t, ho, hx, hd, g⟩ := (setS_get I ha).ex
  have isS : ∀ v ∈ es.toList.map (·.2), ∃ x tk, v = Value.str x tk := fun v hv => by
    obtain ⟨e, he, rfl⟩ := List.mem_map.mp hv
    obtain ⟨x, tk, e1, _⟩ := (g.good e he).ex
    exact ⟨x, tk, e1⟩
  refine sorted_set_raw (I.ok.hd hc) ⟨o, ho, hx.1, hd⟩ g.fit (by rw [g.size]; exact g.few) g.ris g.led encS ?_ ?_ ?_ ?_ fun s' p out c old gg oo sz hp pm pw => ?_
  · intro v hv
    obtain ⟨x, tk, rfl⟩ := isS v hv
    exact .str x tk
  · intro d hd1 d' hd2
    obtain ⟨v, hv, rfl⟩ := List.mem_map.mp hd1
    obtain ⟨v', hv', rfl⟩ := List.mem_map.mp hd2
    obtain ⟨x, tk, rfl⟩ := isS v hv
    obtain ⟨x', tk', rfl⟩ := isS v' hv'
    rfl
  · right
    intro d hd1
    obtain ⟨v, hv, rfl⟩ := List.mem_map.mp hd1
    obtain ⟨x, tk, rfl⟩ := isS v hv
    exact ⟨fun z => (by cases z), fun xs z => (by cases z)⟩
  · intro v hv
    obtain ⟨x, tk, rfl⟩ := isS v hv
    have : (encS (.str x tk)).depth = 0 := rfl
    omega
  · have isO : ∀ v ∈ out, ∃ x tk, v = Value.str x tk := fun v hv => isS v (pm.mem_iff.mp hv)
    have hv := strs_of isO
    have pk : (out.map fun v => keyS (0, v)).Perm ts := by
      refine ((pm.map fun v => keyS (0, v)).trans ?_).trans g.keys
      rw [List.map_map]
      exact List.Perm.of_eq (List.map_congr_left fun e _ => rfl)
    refine ⟨.ref p, upd H p (.lst ((out.map fun v => keyS (0, v)).map V.str)), inv_laid I old gg oo sz ⟨?_, out, c, hv, hp⟩, rfl, q _ p pk ?_ (I.hok.fresh sz)⟩
    · rw [List.length_map, pk.length_eq, sizeLine_eq]
      have h1 := g.few
      have : scanBound = 4096 := rfl
      omega
    · rw [List.pairwise_map]
      refine List.Pairwise.imp_of_mem (fun {u v} hu hv le => ?_) pw
      obtain ⟨x, tk, rfl⟩ := isO u hu
      obtain ⟨y, tk', rfl⟩ := isO v hv
      rw [PySem.W.dataLe_eq] at le
      show PySem.W.dataLt (.str y) (.str x) = false
      have z : (!PySem.W.dataLt (.str y) (.str x)) = true := le
      simpa using z
/-! `in`, `not in` -/
theorem SetS.setOf {P : Program} {w : World} {h : Heap} {a : Addr} {l : List Str} (g : SetS w h a l) : Heap.SetOf (PySem.strKind P w) h a (fun k => decide (k ∈ l)) l.length := by
  obtain ⟨o, es, ep, t, ho, hx, hd, g⟩ := g.ex
  refine ⟨o, es, ep, t, ho, hx, hd, good_elemsS g.good, fun k => ?_, by rw [g.size]; exact g.few, g.fit, g.size⟩
  rw [decide_eq_true_eq, ← g.keys.mem_iff, List.mem_map]
  constructor
  · rintro ⟨e, he, hk⟩
    exact ⟨e, he, ((g.good e he).is k).mpr hk⟩
  · rintro ⟨e, he, hk⟩
    exact ⟨e, he, ((g.good e he).is (P := P) k).mp hk⟩
def rSInS (w : World) (neg : Bool) : V → V → Hp → VK → Prop := fun x y H Q => ∃ (k : Str) (a : Addr) (l : List Str), x = .str k ∧ y = V.ref a ∧ H a = some (SetSO w a l) ∧ Q (.bl (if neg then !decide (k ∈ l) else decide (k ∈ l))) H
theorem or_sinS : OpR X (compareOp .In) (rSInS X.w false) := by
  intro pins s σ H x y v u Q I rx ry h
  obtain ⟨k, a, l, rfl, rfl, ha, q⟩ := h
  obtain ⟨tk, rfl⟩ := rx
  obtain rfl : u = Value.ref a := ry
  exact wpAny_inSet_of (knd := PySem.strKind X.prog X.w) (isS k tk) rfl (setS_get I ha).setOf ⟨.bl _, H, inv_drawn I rfl rfl rfl, rfl, q⟩
theorem or_snotinS : OpR X (compareOp .NotIn) (rSInS X.w true) := by
  intro pins s σ H x y v u Q I rx ry h
  obtain ⟨k, a, l, rfl, rfl, ha, q⟩ := h
  obtain ⟨tk, rfl⟩ := rx
  obtain rfl : u = Value.ref a := ry
  exact wpAny_notInSet_of (knd := PySem.strKind X.prog X.w) (isS k tk) rfl (setS_get I ha).setOf ⟨.bl _, H, inv_drawn I rfl rfl rfl, rfl, q⟩
end
end Lf

set_option maxHeartbeats 4000000
namespace Lf
open PySem PySem.Spec PyProof.Rows L2
/-! ## texts and tuples of such, at any depth, as keys -/
mutual
inductive Kd (h : Heap) : Value → PyData → Prop
  | str (x : Str) (tk : Tok) : Kd h (.str x tk) (.str x)
  | tup {a : Addr} {o : Obj} {vs : Array Value} {n : Nat} {ds : List PyData} : h.get? a = some o → o.cls = .type "tuple" → o.data = Data.seq vs n → KdAll h vs.toList ds → Kd h (.ref a) (.tuple ds)
inductive KdAll (h : Heap) : List Value → List PyData → Prop
  | nil : KdAll h [] []
  | cons {v : Value} {vs : List Value} {d : PyData} {ds : List PyData} : Kd h v d → KdAll h vs ds → KdAll h (v :: vs) (d :: ds)
end
mutual
theorem Kd.mono {h h' : Heap} (k : ∀ b o, h.get? b = some o → o.cls = .type "tuple" → h'.get? b = some o) : ∀ {v : Value} {d : PyData}, Kd h v d → Kd h' v d
  | _, _, .str x tk => .str x tk
  | _, _, .tup a b c r => .tup (k _ _ a b) b c (KdAll.mono k r)
theorem KdAll.mono {h h' : Heap} (k : ∀ b o, h.get? b = some o → o.cls = .type "tuple" → h'.get? b = some o) : ∀ {vs : List Value} {ds : List PyData}, KdAll h vs ds → KdAll h' vs ds
  | _, _, .nil => .nil
  | _, _, .cons a b => .cons (Kd.mono k a) (KdAll.mono k b)
end
mutual
theorem Kd.reads {h : Heap} : ∀ {v : Value} {d : PyData}, Kd h v d → PySem.Reads h v d []
  | _, _, .str x tk => .str x tk
  | _, _, .tup a b c r => .tuple a b c (KdAll.reads r)
theorem KdAll.reads {h : Heap} : ∀ {vs : List Value} {ds : List PyData}, KdAll h vs ds → PySem.ReadsAll h vs ds []
  | _, _, .nil => .nil
  | _, _, .cons a b => .cons (as := []) (bs := []) (Kd.reads a) (KdAll.reads b)
end
mutual
def hashD (w : World) : PyData → Int
  | .str x => hashStr w x
  | .tuple ds => reduceHash (Builtin.Tuple.tupleHashOf (hashesD w ds))
  | _ => 0
def hashesD (w : World) : List PyData → List Int
  | [] => []
  | d :: ds => hashD w d :: hashesD w ds
end
mutual
theorem pyHash_key {P : Program} {w : World} : ∀ {v : Value} {d : PyData} {A : Around} {E : Value → Shared → Prop} {s : Shared} {Q : Int → Shared → Prop}, Kd s.heap v d → A.units + d.depth < cLine →
    (∀ tk, s.toks ≤ tk → Q (hashD w d) { heap := s.heap, gens := s.gens, drawn := s.drawn, toks := tk, os := s.os }) → wpAny (model P w) A (pyHash v) Q E s
  | _, .str x, A, E, s, Q, h, hu, q => by
    cases h with
    | str _ tk => exact wpAny_pyHash_str (by rw [hashD] at q; exact q _ (Nat.le_succ _))
  | _, .tuple ds, A, E, s, Q, h, hu, q => by
    cases h with
    | tup h1 h2 h3 h4 =>
      rw [PyData.depth] at hu
      refine PySem.W.pyHash_slot ⟨_, h1, h2⟩ F.slot_tuple_hash F.entry_tuple_hash (F.args_tuple_hash_1 _) rfl (.inr (by omega)) ?_
      unfold Builtin.«tuple.__hash__»
      dsimp only
      refine wpAny_bind (wpAny_pure ?_)
      dsimp only
      refine wpAny_bind (wpAny_tupleItemsOf h1 h3 ?_)
      rw [← Array.forIn_toList]
      refine wpAny_bind (pyHashes_key h4 (by show A.units + 1 + _ < _; omega) fun tk ht => ?_)
      dsimp only
      unfold retInt
      refine wpAny_mono (wpAny_ret_mkInt (Q := fun v s' => ∃ n t, v = Value.int n t ∧ Q (reduceHash n) s') ⟨_, _, rfl, ?_⟩) ?_ fun _ _ z => z
      · rw [hashD] at q
        simp only [List.nil_append]
        exact q _ (Nat.le_succ_of_le ht)
      · rintro fin s' ⟨v, rfl, n, t, rfl, z⟩
        exact ⟨n, t, rfl, z⟩
  | _, .none, A, E, s, Q, h, hu, q => by cases h
  | _, .bool _, A, E, s, Q, h, hu, q => by cases h
  | _, .int _, A, E, s, Q, h, hu, q => by cases h
  | _, .list _, A, E, s, Q, h, hu, q => by cases h
  | _, .dict _, A, E, s, Q, h, hu, q => by cases h
theorem pyHashes_key {P : Program} {w : World} : ∀ {vs : List Value} {ds : List PyData} {A : Around} {E : Value → Shared → Prop} {s : Shared} {hs : Array Int} {Q : Array Int → Shared → Prop}, KdAll s.heap vs ds → A.units + PyData.depthAll ds < cLine →
    (∀ tk, s.toks ≤ tk → Q (hs.toList ++ hashesD w ds).toArray { heap := s.heap, gens := s.gens, drawn := s.drawn, toks := tk, os := s.os }) →
    wpAny (model P w) A (forIn vs hs fun x hs => do
      let h ← pyHash x
      pure (ForInStep.yield (hs.push h))) Q E s
  | _, [], A, E, s, hs, Q, h, hu, q => by
    cases h
    rw [List.forIn_nil]
    refine wpAny_pure ?_
    have := q s.toks (Nat.le_refl _)
    simpa [hashesD] using this
  | _, d :: ds, A, E, s, hs, Q, h, hu, q => by
    cases h with
    | cons a b =>
      rw [PyData.depthAll] at hu
      rw [List.forIn_cons]
      refine wpAny_bind (wpAny_bind (pyHash_key a (by omega) fun tk ht => wpAny_pure ?_))
      dsimp only
      refine pyHashes_key (s := { heap := s.heap, gens := s.gens, drawn := s.drawn, toks := tk, os := s.os }) b (by omega) fun tk' ht' => ?_
      have := q tk' (Nat.le_trans ht ht')
      simpa [hashesD] using this
end
end Lf

set_option maxHeartbeats 4000000
namespace Lf
open PySem PySem.Spec PyProof.Rows L2
theorem hashBy_key {P : Program} {w : World} {E : Value → Shared → Prop} {s : Shared} {A : Around} : ∀ (n : Nat) {v : Value} {d : PyData} {Q : Bool → Shared → Prop}, Kd s.heap v d → (∀ b, Q b s) → wpAny (model P w) A (hashByValue n v) Q E s
  | 0, v, d, Q, h, q => by
    cases h with
    | str x tk => exact wpAny_pure (q false)
    | tup _ _ _ _ => exact wpAny_pure (q false)
  | n + 1, v, d, Q, h, q => by
    cases h with
    | str x tk => exact wpAny_pure (q false)
    | tup h1 h2 h3 h4 =>
      rw [hashByValue.eq_def]
      dsimp only
      refine wpAny_bind (wpAny_specialOf ⟨_, h1, h2⟩ F.slot_tuple_hash.lookup ?_)
      refine wpAny_bind (wpAny_seqItems h1 h3 ?_)
      rw [← Array.forIn_toList]
      refine wpAny_bind ?_
      refine wpAny_forIn_list _ (fun rest (b : Option Bool × Unit) s' => s' = s ∧ ∃ ds, KdAll s.heap rest ds) _ ?_ ?_ _ _ ⟨rfl, _, h4⟩
      · rintro x rest b s' ⟨rfl, ds, hk⟩
        cases hk with
        | cons a r =>
          refine wpAny_bind (hashBy_key n a fun b' => ?_)
          cases b'
          · refine wp_if_pos rfl (wpAny_pure ?_)
            dsimp only
            exact wpAny_pure (q _)
          · refine wp_if_neg (by decide) (wpAny_pure ⟨rfl, _, r⟩)
      · rintro b s' ⟨rfl, ds, hk⟩
        rcases b.1 with _ | r
        · exact wpAny_pure (q _)
        · exact wpAny_pure (q _)
theorem quiet_key {P : Program} {w : World} {E : Value → Shared → Prop} {s : Shared} {A : Around} : ∀ (n : Nat) {v : Value} {d : PyData} {Q : Bool → Shared → Prop}, Kd s.heap v d → d.depth ≤ n → Q true s → wpAny (model P w) A (eqIsQuiet n v) Q E s
  | 0, v, d, Q, h, hn, q => by
    cases h with
    | str x tk => exact wpAny_pure q
    | tup h1 h2 h3 h4 =>
      rw [PyData.depth] at hn
      omega
  | n + 1, v, d, Q, h, hn, q => by
    cases h with
    | str x tk => exact wpAny_pure q
    | tup h1 h2 h3 h4 =>
      rw [PyData.depth] at hn
      rw [eqIsQuiet.eq_def]
      dsimp only
      refine wpAny_bind (wpAny_specialOf ⟨_, h1, h2⟩ F.slot_tuple_eq.lookup ?_)
      refine wpAny_bind (wpAny_isInstance ⟨_, h1, h2⟩ isSubtype_tuple_tuple (wp_if_neg (by decide) ?_))
      refine wpAny_bind (wpAny_seqItems h1 h3 ?_)
      rw [← Array.forIn_toList]
      refine wpAny_bind ?_
      refine wpAny_forIn_list _ (fun rest (b : Option Bool × Unit) s' => s' = s ∧ b.1 = none ∧ ∃ ds, KdAll s.heap rest ds ∧ PyData.depthAll ds ≤ n) _ ?_ ?_ _ _ ⟨rfl, rfl, _, h4, by omega⟩
      · rintro x rest b s' ⟨rfl, hb, ds, hk, hd⟩
        cases hk with
        | cons a r =>
          rw [PyData.depthAll] at hd
          exact wpAny_bind (quiet_key n a (by omega) (wp_if_neg (by decide) (wpAny_pure ⟨rfl, rfl, _, r, by omega⟩)))
      · rintro b s' ⟨rfl, hb, _⟩
        rw [hb]
        exact wpAny_pure q
theorem class_key {P : Program} {w : World} {E : Value → Shared → Prop} {s : Shared} {A : Around} : ∀ (n : Nat) {v : Value} {d : PyData} {Q : Bool → Shared → Prop}, Kd s.heap v d → d.depth ≤ n → Q false s → wpAny (model P w) A (ofAClassStatement n v) Q E s
  | 0, v, d, Q, h, hn, q => by
    cases h with
    | str x tk => exact wpAny_pure q
    | tup h1 h2 h3 h4 =>
      rw [PyData.depth] at hn
      omega
  | n + 1, v, d, Q, h, hn, q => by
    cases h with
    | str x tk => exact wpAny_pure q
    | tup h1 h2 h3 h4 =>
      rw [PyData.depth] at hn
      rw [ofAClassStatement.eq_def]
      dsimp only
      refine wpAny_bind (wpAny_typeOf ⟨_, h1, h2⟩ ?_)
      dsimp only
      refine wp_if_pos rfl (wpAny_bind (wpAny_pure (wp_if_neg (by decide) ?_)))
      refine wpAny_bind (wpAny_seqItems h1 h3 ?_)
      dsimp only
      rw [← Array.forIn_toList]
      refine wpAny_bind ?_
      refine wpAny_forIn_list _ (fun rest (b : Option Bool × Unit) s' => s' = s ∧ b.1 = none ∧ ∃ ds, KdAll s.heap rest ds ∧ PyData.depthAll ds ≤ n) _ ?_ ?_ _ _ ⟨rfl, rfl, _, h4, by omega⟩
      · rintro x rest b s' ⟨rfl, hb, ds, hk, hd⟩
        cases hk with
        | cons a r =>
          rw [PyData.depthAll] at hd
          exact wpAny_bind (class_key n a (by omega) (wp_if_neg (by decide) (wpAny_pure ⟨rfl, rfl, _, r, by omega⟩)))
      · rintro b s' ⟨rfl, hb, _⟩
        rw [hb]
        exact wpAny_pure q
/-! ## equal just if the same -/
mutual
def keyD : PyData → Bool
  | .str x => PyData.canLay0 (.str x)
  | .tuple ds => keysD ds
  | _ => false
def keysD : List PyData → Bool
  | [] => true
  | d :: ds => keyD d && keysD ds
end
mutual
theorem keyD_lay : ∀ {d : PyData}, keyD d = true → d.canLay0 = true
  | .str x, h => by rw [keyD] at h; exact h
  | .tuple ds, h => by rw [keyD] at h; rw [PyData.canLay0]; exact keysD_lay h
  | .none, h => by simp [keyD] at h
  | .bool _, h => by simp [keyD] at h
  | .int _, h => by simp [keyD] at h
  | .list _, h => by simp [keyD] at h
  | .dict _, h => by simp [keyD] at h
theorem keysD_lay : ∀ {ds : List PyData}, keysD ds = true → PyData.canLayAll0 ds = true
  | [], h => by rw [PyData.canLayAll0]
  | d :: ds, h => by
    rw [keysD, Bool.and_eq_true] at h
    rw [PyData.canLayAll0, keyD_lay h.1, keysD_lay h.2]
    rfl
end
mutual
theorem eqv_key : ∀ {d e : PyData}, keyD d = true → keyD e = true → (d.eqv e = true ↔ d = e)
  | .str x, .str y, _, _ => by rw [PyData.eqv]; simp
  | .tuple ds, .tuple es, h, k => by
    rw [keyD] at h k
    rw [PyData.eqv, eqvs_key h k]
    constructor
    · rintro rfl; rfl
    · intro z; cases z; rfl
  | .str x, .tuple es, _, _ => by simp [PyData.eqv]
  | .tuple ds, .str y, _, _ => by simp [PyData.eqv]
  | .none, _, h, _ => by simp [keyD] at h
  | .bool _, _, h, _ => by simp [keyD] at h
  | .int _, _, h, _ => by simp [keyD] at h
  | .list _, _, h, _ => by simp [keyD] at h
  | .dict _, _, h, _ => by simp [keyD] at h
  | _, .none, _, h => by simp [keyD] at h
  | _, .bool _, _, h => by simp [keyD] at h
  | _, .int _, _, h => by simp [keyD] at h
  | _, .list _, _, h => by simp [keyD] at h
  | _, .dict _, _, h => by simp [keyD] at h
theorem eqvs_key : ∀ {ds es : List PyData}, keysD ds = true → keysD es = true → (PyData.eqvAll ds es = true ↔ ds = es)
  | [], [], _, _ => by simp [PyData.eqvAll]
  | d :: ds, [], _, _ => by simp [PyData.eqvAll]
  | [], e :: es, _, _ => by simp [PyData.eqvAll]
  | d :: ds, e :: es, h, k => by
    rw [keysD, Bool.and_eq_true] at h k
    rw [PyData.eqvAll, Bool.and_eq_true, eqv_key h.1 k.1, eqvs_key h.2 k.2]
    constructor
    · rintro ⟨rfl, rfl⟩; rfl
    · intro z; cases z; exact ⟨rfl, rfl⟩
end
theorem eqBool_key {P : Program} {w : World} {A : Around} {E : Value → Shared → Prop} {s : Shared} {u v : Value} {d e : PyData} {Q : Bool → Shared → Prop} (h : Kd s.heap u d) (k : Kd s.heap v e)
    (hd : keyD d = true) (he : keyD e = true) (hu : A.units + d.depth < cLine) (q : ∀ b, (b = true ↔ d = e) → Q b s) : wpAny (model P w) A (eqBool u v) Q E s :=
  SeqAt.eqBoolOverData P w A E s u v d e [] [] Q h.reads k.reads (keyD_lay hd) (keyD_lay he) (by have := Nat.min_le_left d.depth e.depth; omega) (q _ (eqv_key hd he))
end Lf

set_option maxHeartbeats 4000000
namespace Lf
open PySem PySem.Spec PyProof.Rows L2
/-! ## sets of such tuples: the search -/
def rowsD (w : World) (L : List (Addr × PyData)) : List (Int × Value) := L.map fun p => (hashD w p.2, Value.ref p.1)
structure KdOk (h : Heap) (x : Addr) (d : PyData) : Prop where
  kd : Kd h (.ref x) d
  key : keyD d = true
  deep : d.depth ≤ 7
theorem KdOk.mono {h h' : Heap} {x : Addr} {d : PyData} (g : KdOk h x d) (k : ∀ b o, h.get? b = some o → o.cls = .type "tuple" → h'.get? b = some o) : KdOk h' x d := ⟨g.kd.mono k, g.key, g.deep⟩
structure SetDR (w : World) (h : Heap) (a : Addr) (L : List (Addr × PyData)) (es : Array (Int × Value)) (ep : Nat) (t : SetTable) : Prop where
  ob : ∃ o, h.get? a = some o ∧ o.ExactSet ∧ o.data = Data.set es ep t
  rows : es.toList = rowsD w L
  tab : TabOk t (L.map fun p => hashD w p.2)
  nd : (L.map (·.2)).Nodup
  kd : ∀ p ∈ L, KdOk h p.1 p.2
  led : w.params.followText "set-order" = true ∨ t.led = true
  room : L.length * 5 < t.mask * 3
  few : L.length < 64
section
variable {w : World} {h : Heap} {a : Addr} {L : List (Addr × PyData)} {es : Array (Int × Value)} {ep : Nat} {t : SetTable}
theorem SetDR.size (g : SetDR w h a L es ep t) : es.size = L.length := by
  rw [← Array.length_toList, g.rows, rowsD, List.length_map]
theorem SetDR.fits (g : SetDR w h a L es ep t) : t.fits es.size = true := by
  have sz := g.tab.sz
  rw [List.length_map] at sz
  show (t.place.size == es.size && decide (t.fill ≤ t.mask)) = true
  rw [Bool.and_eq_true, beq_iff_eq, decide_eq_true_eq]
  refine ⟨sz.trans g.size.symm, ?_⟩
  show t.place.size + t.dummies.size ≤ t.mask
  rw [g.tab.dm, sz]
  have := g.room
  show L.length + 0 ≤ _
  omega
theorem SetDR.gw (g : SetDR w h a L es ep t) : ¬ t.gaveWay = true := by
  have := mask_odd g.tab.mok
  show ¬ (t.mask % 2 == 0) = true
  rw [this]
  decide
theorem SetDR.entry (g : SetDR w h a L es ep t) {i : Nat} {p : Addr × PyData} (e : L[i]? = some p) : es[i]? = some (hashD w p.2, Value.ref p.1) := by
  rw [← Array.getElem?_toList, g.rows, rowsD, List.getElem?_map, e]
  rfl
end
theorem seen_key {P : Program} {w : World} {A : Around} {E : Value → Shared → Prop} {s : Shared} {x : Addr} {d : PyData} {Q : Bool → Shared → Prop} (h : KdOk s.heap x d) {ys : List Value}
    (hy : ∀ y ∈ ys, ∃ e c, y = .ref c ∧ KdOk s.heap c e) (q : Q false s) : wpAny (model P w) A (searchCouldBeSeen (.ref x) ys) Q E s := by
  unfold searchCouldBeSeen
  refine wpAny_bind ?_
  refine wpAny_forIn_list _ (fun rest (b : Option Bool × Unit) s' => s' = s ∧ b.1 = none ∧ ∀ y ∈ rest, ∃ e c, y = .ref c ∧ KdOk s.heap c e) _ ?_ ?_ _ _ ⟨rfl, rfl, hy⟩
  · rintro y rest b s' ⟨rfl, hb, hr⟩
    obtain ⟨e, c, rfl, k⟩ := hr y List.mem_cons_self
    have fin : ∀ y ∈ rest, ∃ e c, y = .ref c ∧ KdOk s'.heap c e := fun y hy => hr y (List.mem_cons_of_mem _ hy)
    dsimp only
    by_cases z : (x == c || carriedByValue (.ref x) && carriedByValue (.ref c)) = true
    · refine wp_if_pos z (wpAny_pure ⟨rfl, rfl, fin⟩)
    · refine wp_if_neg z ?_
      refine wpAny_bind (quiet_key 8 h.kd (by have := h.deep; omega) (wp_if_neg (by decide) ?_))
      refine wpAny_bind (quiet_key 8 k.kd (by have := k.deep; omega) (wp_if_neg (by decide) ?_))
      refine wpAny_bind (class_key 8 h.kd (by have := h.deep; omega) (wp_if_neg (by decide) ?_))
      exact wpAny_bind (class_key 8 k.kd (by have := k.deep; omega) (wp_if_neg (by decide) (wpAny_pure ⟨rfl, rfl, fin⟩)))
  · rintro b s' ⟨rfl, hb, _⟩
    dsimp only
    rw [hb]
    exact wpAny_pure q
theorem nth_dummy (m : Nat) : ∀ (k : Nat) (p : SetTable.Probe), (nth m p k).dummy = p.dummy
  | 0, p => rfl
  | k + 1, p => by
    rw [nth_succ]
    unfold adv
    split
    · exact nth_dummy m k p
    · exact nth_dummy m k p
theorem search_key_from {P : Program} {w : World} {A : Around} {E : Value → Shared → Prop} {s : Shared} {a : Addr} {L : List (Addr × PyData)} {es : Array (Int × Value)} {ep : Nat} {t : SetTable}
    (g : SetDR w s.heap a L es ep t) {x : Addr} {d : PyData} (hx : KdOk s.heap x d) (hu : A.units + 8 < cLine) {K : Nat} (hK : K < 10 * SetTable.turns t.mask)
    (out : way t.mask (hashD w d) K ∉ t.place.toList) (inn : ∀ c, c < K → way t.mask (hashD w d) c ∈ t.place.toList) {Q : SetFound → Shared → Prop}
    (q1 : d ∈ L.map (·.2) → Q (.there none) s) (q2 : d ∉ L.map (·.2) → Q (.free (way t.mask (hashD w d) K) false) s) :
    ∀ (f c : Nat) (stand : Option SetTable.Probe), stand.getD (t.probeStart (hashD w d)) = nth t.mask (runAt t.mask (SetTable.bits (hashD w d) % (t.mask + 1)) (SetTable.bits (hashD w d))) c → c ≤ K → K - c < f →
      (∀ (i : Nat) (p : Addr × PyData), L[i]? = some p → p.2 = d → ∃ c', c ≤ c' ∧ c' < K ∧ t.place.toList[i]? = some (way t.mask (hashD w d) c')) →
      wpAny (model P w) A (setSearchFrom a (.ref x) (hashD w d) true f stand) Q E s
  | 0, c, stand, hs, hc, hf, hi => absurd hf (Nat.not_lt_zero _)
  | f + 1, c, stand, hs, hc, hf, hi => by
    obtain ⟨o, ho, hxs, hd⟩ := g.ob
    rw [setSearchFrom_succ]
    refine wpAny_bind (wpAny_setState_of ho hd g.fits ?_)
    dsimp only
    refine wp_if_neg g.gw ?_
    generalize hp : nth t.mask (runAt t.mask (SetTable.bits (hashD w d) % (t.mask + 1)) (SetTable.bits (hashD w d))) c = p at hs
    have hn : ∀ k, (nth t.mask p k).j = way t.mask (hashD w d) (c + k) := fun k => by rw [← hp, ← nth_add]
    have hdm : p.dummy = none := by rw [← hp, nth_dummy]; rfl
    have hat : ∀ (i : Nat) (p' : Addr × PyData), L[i]? = some p' → (Option.map (fun x => x.fst) es[i]?).getD 0 = hashD w p'.2 := fun i p' e => by rw [g.entry e]; rfl
    have spec := go_spec t g.tab.ris g.tab.dm (fun i => (Option.map (fun x => x.fst) es[i]?).getD 0) (hashD w d) (10 * SetTable.turns t.mask) (K - c) p hdm (by omega)
      (fun k hk => by rw [hn]; exact inn _ (by omega)) (by rw [hn, show c + (K - c) = K by omega]; exact out)
    rcases spec with ⟨k, i, hk, hpl, hh, hbef, hgo⟩ | ⟨hno, hgo⟩
    · rw [show t.probe (fun i => (Option.map (fun x => x.fst) es[i]?).getD 0) (hashD w d) (stand.getD (t.probeStart (hashD w d))) = some (.candidate (nth t.mask p k).j i (nth t.mask p (k + 1))) by rw [hs]; exact hgo]
      dsimp only
      have hil : i < L.length := by
        have h1 := (List.getElem?_eq_some_iff.mp hpl).1
        have h2 := g.tab.sz
        rw [List.length_map] at h2
        rw [Array.length_toList] at h1
        omega
      obtain ⟨p', hp'⟩ : ∃ p', L[i]? = some p' := ⟨_, List.getElem?_eq_getElem hil⟩
      have hm : p' ∈ L := List.mem_of_getElem? hp'
      have kp := g.kd p' hm
      have rest : wpAny (model P w) A (L2.searchRest a (.ref x) (hashD w d) true f es t (nth t.mask p k).j i (nth t.mask p (k + 1))) Q E s := by
        unfold L2.searchRest
        rw [g.entry hp']
        dsimp only
        refine wpAny_bind (wpAny_holding (eqBool_key kp.kd hx.kd kp.key hx.key (by have := kp.deep; omega) fun b hb => ?_))
        refine wpAny_bind (wpAny_setState_of ho hd g.fits ?_)
        dsimp only
        cases b with
        | true => exact wp_if_pos (by rfl) (wpAny_pure (q1 (List.mem_map.mpr ⟨p', hm, hb.mp rfl⟩)))
        | false =>
          have nb : p'.2 ≠ d := fun z => Bool.false_ne_true (hb.mpr z)
          refine wp_if_neg (by decide) ?_
          rw [sameMem]
          dsimp only
          rw [if_pos rfl, slot_live g.tab.ris hpl]
          dsimp only
          rw [g.entry hp']
          dsimp only
          refine wpAny_bind (wpAny_isSame_ref_self (wpAny_bind (wpAny_pure ?_)))
          rw [if_pos rfl]
          dsimp only
          refine wp_if_neg (by decide) ?_
          refine search_key_from g hx hu hK out inn q1 q2 f (c + (k + 1)) _ ?_ (by omega) (by omega) fun i' p2 e2 d2 => ?_
          · show nth t.mask p (k + 1) = _
            conv => rhs; rw [nth_add, hp]
          · obtain ⟨c', h1, h2, h3⟩ := hi i' p2 e2 d2
            refine ⟨c', ?_, h2, h3⟩
            refine Decidable.byContradiction fun lt => ?_
            have h3' : t.place.toList[i']? = some (nth t.mask p (c' - c)).j := by rw [hn, show c + (c' - c) = c' by omega]; exact h3
            rcases Nat.lt_or_ge (c' - c) k with l | l
            · exact hbef (c' - c) i' l h3' (by rw [hat i' p2 e2, d2])
            · have e : c' - c = k := by omega
              rw [e] at h3'
              have s1 := slot_live g.tab.ris h3'
              have s2 := slot_live g.tab.ris hpl
              rw [s1] at s2
              cases s2
              rw [hp'] at e2
              cases e2
              exact nb d2
      by_cases ld : (!t.led) = true
      · refine wp_if_pos ld (wpAny_bind (seen_key hx (fun y hy => ?_) (wp_if_neg (by decide) rest)))
        obtain ⟨e, he, rfl⟩ := List.mem_map.mp hy
        have he' : e ∈ es.toList := by
          have := he
          simp only [Array.toList_filter', List.mem_filter] at this
          exact this.1
        rw [g.rows, rowsD] at he'
        obtain ⟨p2, h2, rfl⟩ := List.mem_map.mp he'
        exact ⟨p2.2, p2.1, rfl, g.kd p2 h2⟩
      · exact wp_if_neg ld rest
    · rw [show t.probe (fun i => (Option.map (fun x => x.fst) es[i]?).getD 0) (hashD w d) (stand.getD (t.probeStart (hashD w d))) = some (.empty (nth t.mask p (K - c)).j none) by rw [hs]; exact hgo]
      dsimp only
      rw [hn, show c + (K - c) = K by omega]
      refine wpAny_pure (q2 fun hm => ?_)
      obtain ⟨p2, h2, d2⟩ := List.mem_map.mp hm
      obtain ⟨i', hi', e2⟩ := List.getElem_of_mem h2
      have e2' : L[i']? = some p2 := by rw [List.getElem?_eq_getElem hi', e2]
      obtain ⟨c', h1, h2', h3⟩ := hi i' p2 e2' d2
      exact hno (c' - c) i' (by omega) (by rw [hn, show c + (c' - c) = c' by omega]; exact h3) (by rw [hat i' p2 e2', d2])
end Lf

set_option maxHeartbeats 4000000
namespace Lf
open PySem PySem.Spec PyProof.Rows L2
theorem search_key {P : Program} {w : World} {A : Around} {E : Value → Shared → Prop} {s : Shared} {a : Addr} {L : List (Addr × PyData)} {es : Array (Int × Value)} {ep : Nat} {t : SetTable}
    (g : SetDR w s.heap a L es ep t) {x : Addr} {d : PyData} (hx : KdOk s.heap x d) (hu : A.units + 8 < cLine) {Q : SetFound → Shared → Prop}
    (q1 : d ∈ L.map (·.2) → Q (.there none) s)
    (q2 : ∀ K, d ∉ L.map (·.2) → way t.mask (hashD w d) K ∉ t.place.toList → (∀ c, c < K → way t.mask (hashD w d) c ∈ t.place.toList) → Q (.free (way t.mask (hashD w d) K) false) s) :
    wpAny (model P w) A (setSearch a (.ref x) (hashD w d) true) Q E s := by
  have room := g.room
  obtain ⟨K, hK, out, inn⟩ := g.tab.first (by rw [List.length_map]; omega) (hashD w d)
  have hm : t.mask ≤ 127 := by rcases g.tab.mok with h | h | h <;> omega
  have ht : 10 * SetTable.turns t.mask ≤ 1420 := by
    show 10 * (t.mask + 15) ≤ 1420
    omega
  unfold setSearch
  refine search_key_from g hx hu hK out inn q1 (fun nd => q2 K nd out inn) 100000 0 none (by rw [Option.getD_none]; exact start_run t _) (Nat.zero_le _) (by omega) fun i p e hp => ?_
  have hil : i < t.place.toList.length := by
    have h1 := (List.getElem?_eq_some_iff.mp e).1
    have h2 := g.tab.sz
    rw [List.length_map] at h2
    rw [Array.length_toList]
    omega
  obtain ⟨k, hk, hw⟩ := g.tab.before (h := hashD w d) (K := K) (i := i) out (by rw [List.getElem?_map, e, ← hp]; rfl) (List.getElem?_eq_getElem hil)
  exact ⟨k, Nat.zero_le _, hk, by rw [hw]; exact List.getElem?_eq_getElem hil⟩
theorem range_get {α : Type} : ∀ L : List α, (List.range L.length).filterMap (fun i => L[i]?) = L
  | [] => rfl
  | x :: L => by
    rw [List.length_cons, List.range_succ_eq_map, List.filterMap_cons]
    simp only [List.getElem?_cons_zero, List.filterMap_map]
    congr 1
    exact range_get L
theorem order_rowsD {w : World} (L : List (Addr × PyData)) (es : Array (Int × Value)) (order : Array Nat) (he : es.toList = rowsD w L) (hp : order.toList.Perm (List.range L.length)) :
    ∃ L2, (Array.filterMap (fun x => es[x]?) order).toList = rowsD w L2 ∧ L2.Perm L ∧ L2.map (fun p => hashD w p.2) = order.toList.map fun i => (es.map (·.1)).getD i 0 := by
  have ge : ∀ i : Nat, es[i]? = (L[i]?).map fun p => (hashD w p.2, Value.ref p.1) := fun i => by
    rw [← Array.getElem?_toList, he, rowsD, List.getElem?_map]
  refine ⟨order.toList.filterMap fun i => L[i]?, ?_, ?_, ?_⟩
  · rw [Array.toList_filterMap, rowsD, List.map_filterMap]
    exact congrArg (fun f => List.filterMap f order.toList) (funext ge)
  · have := hp.filterMap fun i => L[i]?
    rw [range_get] at this
    exact this
  · have hb : ∀ i ∈ order.toList, i < L.length := fun i hi => List.mem_range.mp (hp.mem_iff.mp hi)
    revert hb
    generalize order.toList = l
    intro hb
    induction l with
    | nil => rfl
    | cons i l ih =>
      have hi := hb i List.mem_cons_self
      have e : L[i]? = some L[i] := List.getElem?_eq_getElem hi
      rw [List.filterMap_cons, e]
      dsimp only
      rw [List.map_cons, List.map_cons, ih fun j hj => hb j (List.mem_cons_of_mem _ hj)]
      congr 1
      have := ge i
      rw [e] at this
      rw [Array.getD_eq_getD_getElem?, Array.getElem?_map, this]
      rfl
theorem KdOk.same {h h' : Heap} {x a : Addr} {d : PyData} {o : Obj} (g : KdOk h x d) (ho : h.get? a = some o) (hx : o.ExactSet) (sb : Heap.SameBut a h h') : KdOk h' x d :=
  g.mono fun b u e c => (sb.2 b fun z => by
    subst z
    rw [ho] at e
    cases e
    rw [hx.1] at c
    injection c with z
    exact absurd z (by decide)).trans e
theorem relay_key {P : Program} {w : World} {A : Around} {E : Value → Shared → Prop} {s : Shared} {a : Addr} {L : List (Addr × PyData)} {es : Array (Int × Value)} {ep : Nat} {t : SetTable} {o : Obj}
    (ho : s.heap.get? a = some o) (hx : o.ExactSet) (hd : o.data = Data.set es ep t) (rows : es.toList = rowsD w L) (sz : t.place.size = es.size) (dm : t.dummies = #[]) (le : es.size ≤ t.mask)
    (nd : (L.map (·.2)).Nodup) (kd : ∀ p ∈ L, KdOk s.heap p.1 p.2) (led : w.params.followText "set-order" = true ∨ t.led = true) (few : L.length < 64) {wanted M : Nat}
    (hM : SetTable.sizeAbove wanted - 1 = M) (mok : MaskOk M) (h128 : SetTable.sizeAbove wanted ≤ 128) (room : L.length * 5 < M * 3) {Q : Unit → Shared → Prop}
    (k : ∀ h' L' es' ep' t', Heap.SameBut a s.heap h' → SetDR w h' a L' es' ep' t' → L'.Perm L → Q () { heap := h', gens := s.gens, drawn := s.drawn, toks := s.toks, os := s.os }) :
    wpAny (model P w) A (setRelay a wanted) Q E s := by
  have le2 : es.size = L.length := by rw [← Array.length_toList, rows, rowsD, List.length_map]
  have fit : t.fits es.size = true := by
    show (t.place.size == es.size && decide (t.fill ≤ t.mask)) = true
    rw [Bool.and_eq_true, beq_iff_eq, decide_eq_true_eq]
    refine ⟨sz, ?_⟩
    show t.place.size + t.dummies.size ≤ t.mask
    rw [dm, sz]
    show es.size + 0 ≤ _
    omega
  obtain ⟨t', order, hr, hp, tab, hmask, hled, hpl, hdm⟩ := relaid_ok t (hs := es.map (·.1)) hM mok (by rw [Array.size_map]; omega)
  rw [Array.size_map, le2] at hp
  obtain ⟨L2, e1, e2, e3⟩ := order_rowsD L es order rows hp
  have s2 : (Array.filterMap (fun x => es[x]?) order).size = es.size := by
    rw [← Array.length_toList, e1, rowsD, List.length_map, e2.length_eq, le2]
  rw [setRelay_eq]
  refine wpAny_bind (wpAny_setState_of ho hd fit ?_)
  dsimp only
  refine wp_if_neg (by rw [sizeLine_eq]; omega) ?_
  rw [hr]
  dsimp only
  refine wpAny_bind ?_
  refine wp_if_neg (by rw [s2]; simp) (wpAny_pure ?_)
  dsimp only
  refine wpAny_storeSet_of ho hd ?_ (by rw [s2, sizeLine_eq]; omega)
  have sb : Heap.SameBut a s.heap (s.heap.update a (Obj.putSet (Array.filterMap (fun x => es[x]?) order) t')) := Heap.SameBut.update _ _ _
  refine k _ L2 _ (ep + 1) t' sb ⟨⟨_, store_at ho hd, ⟨hx.1, hx.2.1, hx.2.2⟩, rfl⟩, e1, ?_, (e2.map _).nodup_iff.mpr nd, fun p hp' => (kd p (e2.mem_iff.mp hp')).same ho hx sb, led.imp id fun z => hled.trans z, ?_, ?_⟩ e2
  · rw [e3]; exact tab
  · rw [e2.length_eq, hmask]; exact room
  · rw [e2.length_eq]; exact few
theorem rows_putD {w : World} (L : List (Addr × PyData)) (p : Nat) (x : Addr) (d : PyData) : rowsD w (L.take p ++ (x, d) :: L.drop p) = (rowsD w L).take p ++ (hashD w d, Value.ref x) :: (rowsD w L).drop p := by
  unfold rowsD
  rw [List.map_append, List.map_cons, List.map_take, List.map_drop]
theorem add_key {P : Program} {w : World} {A : Around} {E : Value → Shared → Prop} {s : Shared} {a : Addr} {L : List (Addr × PyData)} {es : Array (Int × Value)} {ep : Nat} {t : SetTable}
    (g : SetDR w s.heap a L es ep t) {x : Addr} {d : PyData} (hx : KdOk s.heap x d) (hu : A.units + 8 < cLine) (hn : L.length + 1 < 64) {Q : Bool → Shared → Prop}
    (q : ∀ b h' L' es' ep' t', Heap.SameBut a s.heap h' → SetDR w h' a L' es' ep' t' → (d ∈ L.map (·.2) → L' = L) → (d ∉ L.map (·.2) → L'.Perm ((x, d) :: L)) → Q b { heap := h', gens := s.gens, drawn := s.drawn, toks := s.toks, os := s.os }) :
    wpAny (model P w) A (setAddHashed a (.ref x) (hashD w d)) Q E s := by
  obtain ⟨o, ho, hxs, hd⟩ := g.ob
  have room := g.room
  have sze := g.size
  refine wpAny_holding ?_
  show wpAny _ _ (setAddHashedIn a (.ref x) (hashD w d) (99999 + 1)) _ _ _
  rw [setAddHashedIn_succ]
  refine wpAny_bind (wpAny_setState_of ho hd g.fits ?_)
  dsimp only
  refine wp_if_neg (by simp [byScan, Value.scannable]) ?_
  refine wpAny_bind (search_key g hx hu (fun hm => ?_) fun K hm out inn => ?_)
  · dsimp only
    exact wpAny_pure (q _ _ L es ep t (Heap.SameBut.refl _ _) g (fun _ => rfl) fun z => absurd hm z)
  · dsimp only
    obtain ⟨p1, p2, p3, p4, p5, p6, p7, p8, p9⟩ := g.tab.put out inn
    refine wpAny_bind (wpAny_setState_of ho hd g.fits ?_)
    dsimp only
    generalize t.put (way t.mask (hashD w d) K) = z at p1 p2 p3 p4 p5 p6 p7 p8 p9 ⊢
    obtain ⟨t1, pp⟩ := z
    dsimp only at p1 p2 p3 p4 p5 p6 p7 p8 p9 ⊢
    rw [← p1] at p2 p3
    rw [List.length_map] at p2 p9
    have rows1 : (SetTable.insertAt es pp (hashD w d, Value.ref x)).toList = rowsD w (L.take pp ++ (x, d) :: L.drop pp) := by
      rw [SetTable.toList_insertAt, g.rows, rows_putD]
    have pm : (L.take pp ++ (x, d) :: L.drop pp).Perm ((x, d) :: L) := put_perm L pp (x, d)
    have len1 : (L.take pp ++ (x, d) :: L.drop pp).length = L.length + 1 := by rw [pm.length_eq, List.length_cons]
    have hs1 : (L.take pp ++ (x, d) :: L.drop pp).map (fun p => hashD w p.2) = List.take pp (L.map fun p => hashD w p.2) ++ hashD w d :: List.drop pp (L.map fun p => hashD w p.2) := by
      rw [List.map_append, List.map_cons, List.map_take, List.map_drop]
    have nd1 : ((L.take pp ++ (x, d) :: L.drop pp).map (·.2)).Nodup := (pm.map (·.2)).nodup_iff.mpr (List.nodup_cons.mpr ⟨hm, g.nd⟩)
    have kd1 : ∀ p ∈ L.take pp ++ (x, d) :: L.drop pp, KdOk s.heap p.1 p.2 := fun p hp => by
      rcases List.mem_cons.mp (pm.mem_iff.mp hp) with rfl | hp
      · exact hx
      · exact g.kd p hp
    have sz1 : (SetTable.insertAt es pp (hashD w d, Value.ref x)).size = L.length + 1 := by
      rw [← Array.length_toList, rows1, rowsD, List.length_map, len1]
    have tab1 : TabOk t1 ((L.take pp ++ (x, d) :: L.drop pp).map fun p => hashD w p.2) := by rw [hs1]; exact p3
    have led1 : w.params.followText "set-order" = true ∨ t1.led = true := g.led.imp id fun z => p5.trans z
    clear hs1 p3
    generalize L.take pp ++ (x, d) :: L.drop pp = L1 at rows1 pm len1 nd1 kd1 tab1
    generalize SetTable.insertAt es pp (hashD w d, Value.ref x) = es1 at rows1 sz1 ⊢
    have szl : t1.place.size = L1.length := by
      have := tab1.sz
      rwa [List.length_map] at this
    -- the rest, whatever is noted about the values
    have fin : ∀ t2 : SetTable, t2.mask = t1.mask → t2.place = t1.place → t2.dummies = t1.dummies → t2.led = t1.led → TabOk t2 (L1.map fun p => hashD w p.2) →
        wpAny (model P w) A (do
          storeSet a es1 t2
          if (!false && t2.tooFull) = true then do
            setRelay a (SetTable.grown (es.size + 1))
            pure true
          else pure true) Q E s := by
      intro t2 m1 m2 m3 m4 tab2
      refine wpAny_bind (wpAny_storeSet_of ho hd ?_ (by rw [sz1, sizeLine_eq]; omega))
      have at1 := store_at (es' := es1) (t' := t2) ho hd
      have sb : Heap.SameBut a s.heap (s.heap.update a (Obj.putSet es1 t2)) := Heap.SameBut.update _ _ _
      by_cases full : (!false && t2.tooFull) = true
      · rw [if_pos full]
        have hf : t2.fill * 5 ≥ t2.mask * 3 := by
          have z : decide (t2.fill * 5 ≥ t2.mask * 3) = true := full
          exact of_decide_eq_true z
        have hf2 : t2.fill = L.length + 1 := by
          show t2.place.size + t2.dummies.size = _
          rw [m2, m3, szl, tab1.dm, len1]
          rfl
        have hmask : t2.mask = t.mask := m1.trans p4
        rw [hf2, hmask] at hf
        have cases3 : (t.mask = 7 ∧ L.length = 4) ∨ (t.mask = 31 ∧ L.length = 18) := by
          rcases g.tab.mok with h | h | h
          · left; omega
          · right; omega
          · omega
        have hxs' : Obj.ExactSet { cls := o.cls, dict := o.dict, data := Data.set es1 (ep + 1) t2, slots := o.slots } := ⟨hxs.1, hxs.2.1, hxs.2.2⟩
        have go : ∀ M, SetTable.sizeAbove (SetTable.grown (es.size + 1)) - 1 = M → MaskOk M → SetTable.sizeAbove (SetTable.grown (es.size + 1)) ≤ 128 → L1.length * 5 < M * 3 →
            wpAny (model P w) A (do
              setRelay a (SetTable.grown (es.size + 1))
              pure true) Q E { heap := s.heap.update a (Obj.putSet es1 t2), gens := s.gens, drawn := s.drawn, toks := s.toks, os := s.os } := by
          intro M hM mok h128 hroom
          refine wpAny_bind (relay_key (L := L1) at1 hxs' rfl rows1 (by rw [m2, szl, sz1, len1]) (by rw [m3]; exact tab1.dm) (by rw [sz1, hmask]; rcases cases3 with ⟨h1, h2⟩ | ⟨h1, h2⟩ <;> omega) nd1
            (fun p hp => (kd1 p hp).same ho hxs sb) (led1.imp id fun z => m4.trans z) (by rw [len1]; omega) hM mok h128 hroom fun h' L' es' ep' t' sb' g' pm' => wpAny_pure (q _ _ L' es' ep' t' (sb.trans sb') g' (fun z => absurd z hm) fun _ => pm'.trans pm))
        rcases cases3 with ⟨h1, h2⟩ | ⟨h1, h2⟩
        · have e : es.size + 1 = 5 := by omega
          rw [e] at go ⊢
          exact go 31 (by rw [size_20]) (.inr (.inl rfl)) (by rw [size_20]; decide) (by rw [len1, h2]; decide)
        · have e : es.size + 1 = 19 := by omega
          rw [e] at go ⊢
          exact go 127 (by rw [size_76]) (.inr (.inr rfl)) (by rw [size_76]; decide) (by rw [len1, h2]; decide)
      · rw [if_neg full]
        refine wpAny_pure (q _ _ L1 es1 (ep + 1) t2 sb ⟨⟨_, at1, ⟨hxs.1, hxs.2.1, hxs.2.2⟩, rfl⟩, rows1, tab2, nd1, fun p hp => (kd1 p hp).same ho hxs sb, led1.imp id fun z => m4.trans z, ?_, by rw [len1]; exact hn⟩ (fun z => absurd z hm) fun _ => pm)
        have hf2 : t2.fill = L1.length := by
          show t2.place.size + t2.dummies.size = _
          rw [m2, m3, szl, tab1.dm]
          rfl
        have nf : ¬ (t2.fill * 5 ≥ t2.mask * 3) := fun z => full (by
          show (true && decide (t2.fill * 5 ≥ t2.mask * 3)) = true
          rw [decide_eq_true z]
          rfl)
        rw [hf2] at nf
        omega
    by_cases pl : t1.plain = true
    · refine wp_if_pos pl (wpAny_bind (hashBy_key 8 hx.kd fun b => ?_))
      cases b
      · exact fin { mask := t1.mask, place := t1.place, dummies := t1.dummies, finger := t1.finger, led := t1.led, moves := t1.moves, plain := false } rfl rfl rfl rfl ⟨tab1.ris, tab1.dm, tab1.sz, tab1.mok, tab1.bd, tab1.reach⟩
      · exact fin t1 rfl rfl rfl rfl tab1
    · refine wp_if_neg pl (wpAny_bind (wpAny_pure ?_))
      exact fin t1 rfl rfl rfl rfl tab1
end Lf

set_option maxHeartbeats 4000000
namespace Lf
open PySem PySem.Spec PyProof.Rows L2
theorem SetDR.keep {w : World} {h h' : Heap} {a : Addr} {L : List (Addr × PyData)} {es : Array (Int × Value)} {ep : Nat} {t : SetTable} (g : SetDR w h a L es ep t) (k : ∀ o, h.get? a = some o → h'.get? a = some o)
    (kd : ∀ p ∈ L, KdOk h' p.1 p.2) : SetDR w h' a L es ep t := by
  obtain ⟨o, h1, h2⟩ := g.ob
  exact ⟨⟨o, k o h1, h2⟩, g.rows, g.tab, g.nd, kd, g.led, g.room, g.few⟩
structure GotD (ks : List (Addr × PyData)) (i : Nat) (L : List (Addr × PyData)) : Prop where
  sub : ∀ p ∈ L, p ∈ ks.take i
  all : ∀ p ∈ ks.take i, p.2 ∈ L.map (·.2)
  len : L.length ≤ i
def IvD (w : World) (h0 : Heap) (S : Addr) (ks : List (Addr × PyData)) (i : Nat) (h : Heap) : Prop :=
  (∀ b o, h0.get? b = some o → h.get? b = some o) ∧ ∃ L es ep t, SetDR w h S L es ep t ∧ GotD ks i L
theorem ivD_step {P : Program} {w : World} {A : Around} {h0 : Heap} {S : Addr} {ks : List (Addr × PyData)} {i : Nat} {x : Addr} {d : PyData} (hi : ks[i]? = some (x, d)) (hn : ks.length < 64) (hu : A.units + 8 < cLine)
    (kd : ∀ p ∈ ks, KdOk h0 p.1 p.2) (hS : h0.get? S = none)
    {s1 : Shared} {E' : Value → Shared → Prop} {Q' : Bool → Shared → Prop} (iv : IvD w h0 S ks i s1.heap)
    (q : ∀ b h' tk, s1.toks ≤ tk → Heap.SameBut S s1.heap h' → IvD w h0 S ks (i + 1) h' → Q' b { heap := h', gens := s1.gens, drawn := s1.drawn, toks := tk, os := s1.os }) :
    wpAny (model P w) A (setAdd S (.ref x)) Q' E' s1 := by
  obtain ⟨ext, L, es, ep, t, g, got⟩ := iv
  have hlt : i < ks.length := (List.getElem?_eq_some_iff.mp hi).1
  have hx : KdOk s1.heap x d := (kd (x, d) (List.mem_of_getElem? hi)).mono fun b o e _ => ext b o e
  have gl := got.len
  refine wpAny_holding (wpAny_bind (pyHash_key hx.kd (by have := hx.deep; omega) fun tk ht => ?_))
  refine add_key (s := { heap := s1.heap, gens := s1.gens, drawn := s1.drawn, toks := tk, os := s1.os }) g hx hu (by omega) fun b h' L' es' ep' t' sb g' e1 e2 => q b h' tk ht sb ⟨fun c o e => (sb.2 c fun z => by
    subst z
    rw [hS] at e
    cases e).trans (ext c o e), L', es', ep', t', g', ?_⟩
  by_cases hm : d ∈ L.map (·.2)
  · rw [e1 hm]
    refine ⟨fun p hp => ?_, fun p hp => ?_, by omega⟩
    · rw [L2.take_next hi]
      exact List.mem_append_left _ (got.sub p hp)
    · rw [L2.take_next hi] at hp
      rcases List.mem_append.mp hp with hp | hp
      · exact got.all p hp
      · rw [List.mem_singleton.mp hp]
        exact hm
  · have pm := e2 hm
    refine ⟨fun p hp => ?_, fun p hp => ?_, by rw [pm.length_eq, List.length_cons]; omega⟩
    · rw [L2.take_next hi]
      rcases List.mem_cons.mp (pm.mem_iff.mp hp) with rfl | hp
      · exact List.mem_append_right _ (List.mem_singleton.mpr rfl)
      · exact List.mem_append_left _ (got.sub p hp)
    · rw [L2.take_next hi] at hp
      rw [(pm.map (·.2)).mem_iff]
      rcases List.mem_append.mp hp with hp | hp
      · exact List.mem_cons_of_mem _ (got.all p hp)
      · rw [List.mem_singleton.mp hp]
        exact List.mem_cons_self
theorem setD_fresh {w : World} {h : Heap} {a : Addr} (e : h.get? a = some (setNew w)) : SetDR w h a [] #[] 0 (SetTable.fresh 0 0 !w.params.followText "set-order") := by
  have g := setTR_fresh (P := default) (w := w) e
  exact ⟨g.ob, rfl, g.tab, List.nodup_nil, fun p hp => (nomatch hp), g.led, g.room, by decide⟩
/-! ## over the layer -/
structure SetD0 (w : World) (h : Heap) (a : Addr) (L : List (Addr × PyData)) : Prop where
  ex : ∃ es ep t, (∃ o, h.get? a = some o ∧ o.ExactSet ∧ o.data = Data.set es ep t) ∧ es.toList = rowsD w L ∧ TabOk t (L.map fun p => hashD w p.2) ∧ (L.map (·.2)).Nodup ∧ (w.params.followText "set-order" = true ∨ t.led = true) ∧ L.length * 5 < t.mask * 3 ∧ L.length < 64
theorem SetDR.t0 {w : World} {h : Heap} {a : Addr} {L : List (Addr × PyData)} {es : Array (Int × Value)} {ep : Nat} {t : SetTable} (g : SetDR w h a L es ep t) : SetD0 w h a L := ⟨es, ep, t, g.ob, g.rows, g.tab, g.nd, g.led, g.room, g.few⟩
theorem SetD0.full {w : World} {h : Heap} {a : Addr} {L : List (Addr × PyData)} (g : SetD0 w h a L) (kd : ∀ p ∈ L, KdOk h p.1 p.2) : ∃ es ep t, SetDR w h a L es ep t := by
  obtain ⟨es, ep, t, h1, h2, h3, h4, h5, h6, h7⟩ := g.ex
  exact ⟨es, ep, t, h1, h2, h3, h4, kd, h5, h6, h7⟩
def SetDO (w : World) (a : Addr) (L : List (Addr × PyData)) : HO := .ext fun h => SetD0 w h a L
theorem setD_new {P : Program} {w : World} {H : Hp} {h : Heap} {a : Addr} {L : List (Addr × PyData)} (g : SetD0 w h a L) : ObjOk P w H h a (SetDO w a L) := by
  refine ⟨g, ?_, fun h1 h2 g1 k => ?_⟩
  · obtain ⟨es, ep, t, ⟨o, h1, _⟩, _⟩ := g.ex
    exact ⟨o, h1⟩
  · obtain ⟨es, ep, t, ⟨o, h1, h2⟩, h3⟩ := g1.ex
    exact ⟨es, ep, t, ⟨o, k o h1, h2⟩, h3⟩
mutual
theorem Dd.kdOf {X : Cx} {pins : List (Addr × Obj)} {σ : L2.St} {H : Hp} {s : Shared} (I : L2.Inv X pins σ H s) : ∀ {d : PyData} {v : V} {u : Value}, keyD d = true → Dd H v d → RelV v u → Kd s.heap u d
  | .str x, v, u, k, h, r => by
    cases h with
    | str _ =>
      obtain ⟨tk, rfl⟩ := r
      exact .str x tk
  | .tuple ds, v, u, k, h, r => by
    cases h with
    | tup h1 h2 =>
      obtain rfl := (show u = Value.ref _ from r)
      obtain ⟨_, its, rv, o, e1, e2, n, e3⟩ := I.hok _ _ h1
      rw [keyD] at k
      exact .tup e1 e2 e3 (DdAll.kdOf I k h2 rv)
  | .none, v, u, k, h, r => by simp [keyD] at k
  | .bool _, v, u, k, h, r => by simp [keyD] at k
  | .int _, v, u, k, h, r => by simp [keyD] at k
  | .list _, v, u, k, h, r => by simp [keyD] at k
  | .dict _, v, u, k, h, r => by simp [keyD] at k
theorem DdAll.kdOf {X : Cx} {pins : List (Addr × Obj)} {σ : L2.St} {H : Hp} {s : Shared} (I : L2.Inv X pins σ H s) : ∀ {ds : List PyData} {vs : List V} {us : List Value}, keysD ds = true → DdAll H vs ds → Vals vs us → KdAll s.heap us ds
  | [], vs, us, k, h, r => by
    cases h
    cases r
    exact .nil
  | d :: ds, vs, us, k, h, r => by
    cases h with
    | cons h1 h2 =>
      cases r with
      | cons r1 r2 =>
        rw [keysD, Bool.and_eq_true] at k
        exact .cons (Dd.kdOf I k.1 h1 r1) (DdAll.kdOf I k.2 h2 r2)
end
/-- a tuple of keys, not deep -/
structure KeyT (d : PyData) : Prop where
  tup : isTup d = true
  key : keyD d = true
  deep : d.depth ≤ 7
def aV : V → Addr | .ref a => a | _ => 0
theorem dd_tup {H : Hp} {v : V} {d : PyData} (h : Dd H v d) (k : isTup d = true) : v = .ref (aV v) := by
  cases h with
  | tup _ _ => rfl
  | _ => cases k
def ksOf (vs : List V) (ds : List PyData) : List (Addr × PyData) := (vs.zip ds).map fun p => (aV p.1, p.2)
theorem ksOf_at {H : Hp} : ∀ {ds : List PyData} {vs : List V} {us : List Value}, DdAll H vs ds → Vals vs us → (∀ d ∈ ds, KeyT d) → ∀ (i : Nat) (u : Value), us[i]? = some u → ∃ x d, (ksOf vs ds)[i]? = some (x, d) ∧ u = Value.ref x
  | [], _, us, h, r, k, i, u, e => by
    cases h
    cases r
    cases e
  | d :: ds, _, us, h, r, k, i, u, e => by
    cases h with
    | cons h1 h2 =>
      cases r with
      | cons r1 r2 =>
        cases i with
        | zero =>
          have z := dd_tup h1 (k d List.mem_cons_self).tup
          cases e
          refine ⟨_, d, rfl, ?_⟩
          rw [z] at r1
          exact r1
        | succ i => exact ksOf_at h2 r2 (fun d hd => k d (List.mem_cons_of_mem _ hd)) i u e
theorem ksOf_mem {H : Hp} : ∀ {ds : List PyData} {vs : List V}, DdAll H vs ds → (∀ d ∈ ds, KeyT d) → ∀ p ∈ ksOf vs ds, Dd H (.ref p.1) p.2 ∧ KeyT p.2 ∧ V.ref p.1 ∈ vs ∧ p.2 ∈ ds
  | [], _, h, k, p, hp => by
    cases h
    cases hp
  | d :: ds, _, h, k, p, hp => by
    cases h with
    | cons h1 h2 =>
      rcases List.mem_cons.mp hp with rfl | hp
      · have z := dd_tup h1 (k d List.mem_cons_self).tup
        exact ⟨by show Dd H (.ref (aV _)) d; rw [← z]; exact h1, k d List.mem_cons_self, by show V.ref (aV _) ∈ _; rw [← z]; exact List.mem_cons_self, List.mem_cons_self⟩
      · obtain ⟨a1, a2, a3, a4⟩ := ksOf_mem h2 (fun d hd => k d (List.mem_cons_of_mem _ hd)) p hp
        exact ⟨a1, a2, List.mem_cons_of_mem _ a3, List.mem_cons_of_mem _ a4⟩
theorem ksOf_snd {H : Hp} : ∀ {ds : List PyData} {vs : List V}, DdAll H vs ds → (ksOf vs ds).map (·.2) = ds
  | [], _, h => by cases h; rfl
  | d :: ds, _, h => by
    cases h with
    | cons h1 h2 =>
      show d :: (ksOf _ ds).map (·.2) = _
      rw [ksOf_snd h2]
section
variable {X : Cx}
def rSetOfD (K : PySem.W.Frag) (w : World) : List V → Hp → VK → Prop := fun xs H Q => ∃ (l : Addr) (vs : List V) (ds : List PyData), xs = [V.ref l] ∧ (SqL K H l vs ∨ SqT K H l vs) ∧ DdAll H vs ds ∧ (∀ d ∈ ds, KeyT d) ∧ ds.length < 64 ∧
  ∀ (a : Addr) (L : List (Addr × PyData)), H a = none → (L.map (·.2)).Nodup → (∀ p ∈ L, Dd H (.ref p.1) p.2 ∧ KeyT p.2 ∧ V.ref p.1 ∈ vs ∧ p.2 ∈ ds) → (∀ d ∈ ds, d ∈ L.map (·.2)) → Q (.ref a) (upd H a (SetDO w a L))
theorem cr_setOfD (hc : X.calm = true) (hu : X.A.units + 64 < cLine) : CallR X (.type "set") (rSetOfD X.K X.w) := by
  intro pins s σ H xs us Q I r h
  obtain ⟨l, vs, ds, rfl, hs, hd, hk, hn, q⟩ := h
  obtain ⟨u, rfl, ru⟩ := vals1 r
  obtain rfl : u = Value.ref l := ru
  have hA := I.ok.hd hc
  have hS : s.heap.get? s.heap.objs.size = none := by
    cases e : s.heap.get? s.heap.objs.size with
    | none => rfl
    | some o => exact absurd (Heap.lt_size e) (Nat.lt_irrefl _)
  have lk : (ksOf vs ds).length = ds.length := by
    have := congrArg List.length (ksOf_snd hd)
    rwa [List.length_map] at this
  have mem := ksOf_mem hd hk
  have kd : ∀ p ∈ ksOf vs ds, KdOk s.heap p.1 p.2 := fun p hp => by
    obtain ⟨a1, a2, _⟩ := mem p hp
    exact ⟨Dd.kdOf I a2.key a1 rfl, a2.key, a2.deep⟩
  have fin : ∀ n, n = (ksOf vs ds).length → ∀ h' tk, s.toks ≤ tk → (∀ b o, s.heap.get? b = some o → h'.get? b = some o) → IvD X.w s.heap s.heap.objs.size (ksOf vs ds) n h' → EP X pins σ Q (.ref s.heap.objs.size) { heap := h', gens := s.gens, drawn := s.drawn, toks := tk, os := s.os } := by
    rintro n rfl h' tk ht ho ⟨_, L, es, ep, t, g, got⟩
    have g1 := got.sub
    have g2 := got.all
    rw [List.take_length] at g1 g2
    refine ⟨.ref _, upd H s.heap.objs.size (SetDO X.w s.heap.objs.size L), I.laid ho (Nat.le_refl _) (setD_new g.t0), rfl, q _ L (I.hok.fresh (Nat.le_refl _)) g.nd (fun p hp => mem p (g1 p hp)) fun d hd' => ?_⟩
    rw [← ksOf_snd hd] at hd'
    obtain ⟨p, hp, rfl⟩ := List.mem_map.mp hd'
    exact g2 p hp
  have hk' : ∀ i h h', IvD X.w s.heap s.heap.objs.size (ksOf vs ds) i h → (∀ b o, b ≠ s.heap.objs.size + 1 → h.get? b = some o → h'.get? b = some o) → IvD X.w s.heap s.heap.objs.size (ksOf vs ds) i h' := by
    rintro i h h' ⟨ext, L, es, ep, t, g, got⟩ k
    have ext' : ∀ b o, s.heap.get? b = some o → h'.get? b = some o := fun b o e => k b o (Nat.ne_of_lt (Nat.lt_succ_of_lt (Heap.lt_size e))) (ext b o e)
    exact ⟨ext', L, es, ep, t, g.keep (fun o e => k _ o (Nat.ne_of_lt (Nat.lt_succ_self _)) e) fun p hp => (kd p (List.mem_of_mem_take (got.sub p hp))).mono fun b o e _ => ext' b o e, got⟩
  have h0 : IvD X.w s.heap s.heap.objs.size (ksOf vs ds) 0 (s.heap.push (setNew X.w)) :=
    ⟨fun b o e => Heap.get?_push_of_some _ e, [], _, _, _, setD_fresh (Heap.get?_push_size _ rfl), fun p hp => (nomatch hp), fun p hp => (nomatch hp), Nat.le_refl _⟩
  have hu' : X.A.in1.in1.in1.units + 8 < cLine := by
    have : X.A.in1.in1.in1.units ≤ X.A.units + 3 := Nat.le_refl _
    omega
  have ll := hd.length
  rcases hs with hs | hs
  · obtain ⟨its, rv, hl, hz⟩ := I.list hs
    have e : its.length = (ksOf vs ds).length := by
      have := rv.length
      omega
    refine set_list_by hA hl.isList (IvD X.w s.heap s.heap.objs.size (ksOf vs ds)) hk' h0 (fun i v s1 E' Q' hi iv q' => ?_) (fin _ e)
    obtain ⟨x, d, hx, rfl⟩ := ksOf_at hd rv hk i v (by simpa using hi)
    exact ivD_step hx (by omega) hu' kd hS iv q'
  · obtain ⟨its, rv, hl, hz⟩ := I.tuple hs
    have e : its.length = (ksOf vs ds).length := by
      have := rv.length
      omega
    refine set_tuple_by hA hl (IvD X.w s.heap s.heap.objs.size (ksOf vs ds)) hk' h0 (fun i v s1 E' Q' hi iv q' => ?_) (fin _ e)
    obtain ⟨x, d, hx, rfl⟩ := ksOf_at hd rv hk i v (by simpa using hi)
    exact ivD_step hx (by omega) hu' kd hS iv q'
end
end Lf

set_option maxHeartbeats 4000000
namespace Lf
open PySem PySem.Spec PyProof.Rows L2
mutual
theorem Kd.unique {h : Heap} : ∀ {v : Value} {d e : PyData}, Kd h v d → Kd h v e → d = e
  | _, _, _, .str x tk, k => by cases k; rfl
  | _, _, _, .tup a b c r, k => by
    cases k with
    | tup a' b' c' r' =>
      rw [a] at a'
      cases a'
      rw [c] at c'
      cases c'
      rw [KdAll.unique r r']
theorem KdAll.unique {h : Heap} : ∀ {vs : List Value} {ds es : List PyData}, KdAll h vs ds → KdAll h vs es → ds = es
  | _, _, _, .nil, k => by cases k; rfl
  | _, _, _, .cons a r, k => by
    cases k with
    | cons a' r' => rw [Kd.unique a a', KdAll.unique r r']
end
open Classical in
noncomputable def encH (h : Heap) (v : Value) : PyData := if z : ∃ d, Kd h v d then z.choose else .none
theorem encH_eq {h : Heap} {v : Value} {d : PyData} (k : Kd h v d) : encH h v = d := by
  have z : ∃ d, Kd h v d := ⟨d, k⟩
  unfold encH
  rw [dif_pos z]
  exact Kd.unique z.choose_spec k
def adV : Value → Addr | .ref a => a | _ => 0
section
variable {X : Cx}
def rSortedDS (w : World) : List V → Hp → VK → Prop := fun vs H Q => ∃ (a : Addr) (L : List (Addr × PyData)), vs = [V.ref a] ∧ H a = some (SetDO w a L) ∧ (∀ p ∈ L, Dd H (.ref p.1) p.2 ∧ KeyT p.2) ∧
  PySem.W.AllAlike (L.map (·.2)) ∧ PySem.W.Sortable (L.map (·.2)) ∧
  ∀ (L' : List (Addr × PyData)) (p : Addr), L'.Perm L → L'.length < 64 → L'.Pairwise (fun q r => PySem.W.dataLt r.2 q.2 = false) → H p = none → Q (.ref p) (upd H p (.lst (L'.map fun q => V.ref q.1)))
theorem vals_refs : ∀ L : List (Addr × PyData), Vals (L.map fun q => V.ref q.1) (L.map fun q => Value.ref q.1)
  | [] => .nil
  | q :: L => .cons rfl (vals_refs L)
theorem cr_sortedDS (hc : X.calm = true) (hu : X.A.units + 64 < cLine) : CallR X (.builtin "sorted") (rSortedDS X.w) := by
  intro pins s σ H vs us Q I r h
  obtain ⟨a, L, rfl, ha, hk, al, so, q⟩ := h
  obtain ⟨u, rfl, ru⟩ := vals1 r
  obtain rfl : u = Value.ref a := ru
  have kd : ∀ p ∈ L, KdOk s.heap p.1 p.2 := fun p hp => ⟨Dd.kdOf I (hk p hp).2.key (hk p hp).1 rfl, (hk p hp).2.key, (hk p hp).2.deep⟩
  obtain ⟨es, ep, t, g⟩ := (show SetD0 X.w s.heap a L from (I.hok _ _ ha).1).full kd
  obtain ⟨o, ho, hx, hd⟩ := g.ob
  have es2 : es.toList.map (·.2) = L.map fun p => Value.ref p.1 := by
    rw [g.rows, rowsD, List.map_map]
    rfl
  have en : ∀ p ∈ L, encH s.heap (.ref p.1) = p.2 := fun p hp => encH_eq (kd p hp).kd
  have em : (L.map fun p => Value.ref p.1).map (encH s.heap) = L.map (·.2) := by
    rw [List.map_map]
    exact List.map_congr_left fun p hp => en p hp
  refine sorted_set_raw (I.ok.hd hc) ⟨o, ho, hx.1, hd⟩ g.fits (by rw [g.size]; have := g.few; show L.length < 4096; omega) g.tab.ris g.led (encH s.heap) ?_ ?_ ?_ ?_ fun s' p out c old gg oo sz hp pm pw => ?_
  · rw [es2]
    intro v hv
    obtain ⟨p, hp, rfl⟩ := List.mem_map.mp hv
    rw [en p hp]
    exact (kd p hp).kd.reads
  · rw [es2, em]; exact al
  · rw [es2, em]; exact so
  · rw [es2]
    intro v hv
    obtain ⟨p, hp, rfl⟩ := List.mem_map.mp hv
    rw [en p hp]
    have := (kd p hp).deep
    omega
  · rw [es2] at pm
    have back : ∀ v ∈ out, ∃ q ∈ L, v = Value.ref q.1 ∧ encH s.heap v = q.2 := fun v hv => by
      obtain ⟨q, hq, rfl⟩ := List.mem_map.mp (pm.mem_iff.mp hv)
      exact ⟨q, hq, rfl, en q hq⟩
    have pL : (out.map fun v => (adV v, encH s.heap v)).Perm L := by
      have := pm.map fun v => (adV v, encH s.heap v)
      rw [List.map_map] at this
      refine this.trans (List.Perm.of_eq ?_)
      refine (List.map_congr_left (g := id) fun q hq => ?_).trans (List.map_id L)
      show (q.1, encH s.heap (.ref q.1)) = q
      rw [en q hq]
    have eo : out = (out.map fun v => (adV v, encH s.heap v)).map fun q => Value.ref q.1 := by
      rw [List.map_map]
      refine ((List.map_congr_left (g := id) fun v hv => ?_).trans (List.map_id out)).symm
      obtain ⟨q, hq, rfl, _⟩ := back v hv
      rfl
    have few := g.few
    have ll : (out.map fun v => (adV v, encH s.heap v)).length < 64 := by rw [pL.length_eq]; exact few
    refine ⟨.ref p, upd H p (.lst ((out.map fun v => (adV v, encH s.heap v)).map fun q => V.ref q.1)), inv_laid I old gg oo sz ⟨?_, out, c, ?_, hp⟩, rfl, q _ p pL ll ?_ (I.hok.fresh sz)⟩
    · rw [List.length_map, sizeLine_eq]
      omega
    · have := vals_refs (out.map fun v => (adV v, encH s.heap v))
      rw [← eo] at this
      exact this
    · rw [List.pairwise_map]
      refine pw.imp fun {u v} le => ?_
      rw [PySem.W.dataLe_eq] at le
      have z : (!PySem.W.dataLt (encH s.heap v) (encH s.heap u)) = true := le
      simpa using z
end
end Lf

set_option maxHeartbeats 4000000
namespace Lf
open PySem PySem.Spec PyProof.Rows L2
/-- what is walked is a list or a tuple -/
def iSeq (K : PySem.W.Frag) (tl : TE) : TI := fun σ H R => tl σ H fun x H1 => ∃ a, x = V.ref a ∧ (((∃ xs, SqL K H1 a xs) ∧ R (Itl K a) H1) ∨ ((∃ xs, SqT K H1 a xs) ∧ R (Itt K a) H1))
theorem pi_seq {X : Cx} {tg l : Expr} {tl : TE} (hl : PE X l tl) : PI X tg l (iSeq X.K tl) := ⟨fun pins s σ H R I h => by
  refine thn (hl.run pins s σ H _ I h) fun v s1 hx => ?_
  obtain ⟨x, H1, I1, r1, a, rfl, q⟩ := hx
  obtain rfl : v = Value.ref a := r1
  rcases q with ⟨⟨xs, hq⟩, q⟩ | ⟨⟨xs, hq⟩, q⟩
  · obtain ⟨its, rv, p, hz⟩ := I1.list hq
    refine wpAny_pyIter_list p.isList ⟨s1.heap.objs.size, [s1.heap.objs.size], _, Itl X.K a, H1, rfl, I1.kept fun b o e => Heap.get?_push_of_some _ e, turn_list a s1.heap.objs.size, ⟨_, Heap.get?_push_size _ rfl, rfl, rfl⟩, fun b hb => ?_, q⟩
    rw [List.mem_singleton.mp hb]
    exact I1.fpOk (Nat.le_refl _) (I1.hok.fresh (Nat.le_refl _))
  · obtain ⟨its, rv, p, hz⟩ := I1.tuple hq
    refine wpAny_pyIter_tuple p ⟨s1.heap.objs.size, [s1.heap.objs.size], _, Itt X.K a, H1, rfl, I1.kept fun b o e => Heap.get?_push_of_some _ e, turn_tuple a s1.heap.objs.size, ⟨_, Heap.get?_push_size _ rfl, rfl, rfl⟩, fun b hb => ?_, q⟩
    rw [List.mem_singleton.mp hb]
    exact I1.fpOk (Nat.le_refl _) (I1.hok.fresh (Nat.le_refl _))⟩
end Lf

set_option maxHeartbeats 4000000
namespace Lf
open PySem PySem.Spec PyProof.Rows L2

/-! ## {k: v for a in x if .. for b in y if ..} -/
abbrev dcE (kx vx t0 i0 t1 i1 : Expr) (c0 c1 : List Expr) (sc : Scope) (ps : Pos) : Expr := .DictComp kx vx [⟨t0, i0, c0, 0⟩, ⟨t1, i1, c1, 0⟩] sc ps
abbrev tstE (cs : List Expr) (en : Env) : Sem Bool := forIn cs true fun c r => if r = true then do let ok ← isTrue c en (eval c en); pure (ForInStep.yield ok) else pure (ForInStep.yield r)
theorem dc2_turn0 (kx vx t0 i0 t1 i1 : Expr) (c0 c1 : List Expr) (sc : Scope) (ps : Pos) (it acc : Value) (en : Env) :
    compTurn (dcE kx vx t0 i0 t1 i1 c0 c1 sc ps) 0 it acc en = (do
      standAt i0.pos
      match ← pyNext it with
      | none => pure (.done .next)
      | some y =>
        letOwnedTupleGo t0 it y; assign t0 en y
        let mut go := true
        for c in c0 do
          if go then go ← isTrue c en (eval c en)
        if go then
          let z ← eval i1 en
          standAt i1.pos
          let z ← foldedSetIterable i1 en z
          let _ ← runOwn (.compStart (dcE kx vx t0 i0 t1 i1 c0 c1 sc ps) 1 (← holding [z] (pyIter z)) acc en) en
        again (.compLoop (dcE kx vx t0 i0 t1 i1 c0 c1 sc ps) 0 it acc en)) := by rfl
theorem dc2_turn1 (kx vx t0 i0 t1 i1 : Expr) (c0 c1 : List Expr) (sc : Scope) (ps : Pos) (it : Value) (D : Addr) (en : Env) :
    compTurn (dcE kx vx t0 i0 t1 i1 c0 c1 sc ps) 1 it (.ref D) en = (do
      standAt i1.pos
      match ← pyNext it with
      | none => pure (.done .next)
      | some y =>
        letOwnedTupleGo t1 it y; assign t1 en y
        let mut go := true
        for c in c1 do
          if go then go ← isTrue c en (eval c en)
        if go then
          (do
            let a ← eval kx en
            let b ← holding [a] (eval vx en)
            standAt { kx.pos with endLine := vx.pos.endLine, endCol := vx.pos.endCol }; holding [a, b] (dictSet D a b))
        again (.compLoop (dcE kx vx t0 i0 t1 i1 c0 c1 sc ps) 1 it (.ref D) en)) := by rfl
section
variable {pr : Program} {w : World} {A : Around} {R : Result → Shared → Prop} {s : Shared} {kx vx t0 i0 t1 i1 : Expr} {c0 c1 : List Expr} {sc : Scope} {ps : Pos} {it acc : Value} {D : Addr} {en : Env}
abbrev nbE (pr : Program) (w : World) (A : Around) (R : Result → Shared → Prop) (en : Env) : Value → Shared → Prop := notedBy (model pr w) A en fun x s' => R (.error x) s'
theorem dc2_loop0 (hs : ∀ z, foldedSetIterable i1 en z = pure z) (J : Nat → Shared → Prop)
    (tn : ∀ n s, J n s → wpAny (model pr w) A (pyNext it) (fun r s1 => match r with
      | none => R (.ok .next) s1
      | some y => wpAny (model pr w) A (letOwnedTupleGo t0 it y) (fun _ s2 => wpAny (model pr w) A (assign t0 en y) (fun _ s3 => wpAny (model pr w) A (tstE c0 en) (fun b s4 =>
            if b = true then wpAny (model pr w) A (eval i1 en) (fun z s5 => wpAny (model pr w) A (pyIter z) (fun it1 s6 => codeAny (model pr w) A (.compStart (dcE kx vx t0 i0 t1 i1 c0 c1 sc ps) 1 it1 acc en) (fun r s' => match r with
                | .ok _ => ∃ m, m < n ∧ J m s'
                | .error _ => False) s6) (nbE pr w A R en) s5) (nbE pr w A R en) s4
            else ∃ m, m < n ∧ J m s4) (nbE pr w A R en) s3) (nbE pr w A R en) s2) (nbE pr w A R en) s1) (nbE pr w A R en) s)
    (n : Nat) (h : J n s) : codeAny (model pr w) A (.compLoop (dcE kx vx t0 i0 t1 i1 c0 c1 sc ps) 0 it acc en) R s := by
  refine codeAny_loop rfl J (fun n s hJ => ?_) n h
  show wpAny _ A ((compTurn (dcE kx vx t0 i0 t1 i1 c0 c1 sc ps) 0 it acc en).onRaise (fun x => do noteFrame x en; theTreesLotGoes x)) _ _ s
  rw [dc2_turn0]
  refine wpAny_noted (wpAny_bind (wpAny_standAt (wpAny_bind (wpAny_mono (tn n s hJ) (fun r s1 h1 => ?_) fun _ _ q => q))))
  cases r with
  | none => exact wpAny_pure h1
  | some y =>
    refine wpAny_bind (wpAny_mono h1 (fun _ s2 h2 => wpAny_bind (wpAny_mono h2 (fun _ s3 h3 => wpAny_bind (wpAny_mono h3 (fun b s4 h4 => ?_) fun _ _ q => q)) fun _ _ q => q)) fun _ _ q => q)
    cases b with
    | false => exact wpAny_pure ⟨rfl, h4⟩
    | true =>
      refine wpAny_bind (wpAny_mono h4 (fun z s5 h5 => wpAny_bind (wpAny_standAt (wpAny_bind (wpAny_of_eq (hs z) (wpAny_bind (wpAny_holding (wpAny_mono h5 (fun it1 s6 h6 => wpAny_bind (wpAny_runOwn ?_)) fun _ _ q => q))))))) fun _ _ q => q)
      rw [Around.mark_none]
      refine codeAny_mono h6 fun r s' hr => ?_
      cases r with
      | error e => exact hr.elim
      | ok f => first | exact wpAny_pure ⟨rfl, hr⟩ | exact wpAny_bind (wpAny_pure (wpAny_pure ⟨rfl, hr⟩))
theorem dc2_loop1 (J : Nat → Shared → Prop)
    (tn : ∀ n s, J n s → wpAny (model pr w) A (pyNext it) (fun r s1 => match r with
      | none => R (.ok .next) s1
      | some y => wpAny (model pr w) A (letOwnedTupleGo t1 it y) (fun _ s2 => wpAny (model pr w) A (assign t1 en y) (fun _ s3 => wpAny (model pr w) A (tstE c1 en) (fun b s4 =>
            if b = true then wpAny (model pr w) A (eval kx en) (fun a s5 => wpAny (model pr w) A (eval vx en) (fun z s6 => wpAny (model pr w) A (dictSet D a z) (fun _ s7 => ∃ m, m < n ∧ J m s7) (nbE pr w A R en) s6) (nbE pr w A R en) s5) (nbE pr w A R en) s4
            else ∃ m, m < n ∧ J m s4) (nbE pr w A R en) s3) (nbE pr w A R en) s2) (nbE pr w A R en) s1) (nbE pr w A R en) s)
    (n : Nat) (h : J n s) : codeAny (model pr w) A (.compLoop (dcE kx vx t0 i0 t1 i1 c0 c1 sc ps) 1 it (.ref D) en) R s := by
  refine codeAny_loop rfl J (fun n s hJ => ?_) n h
  show wpAny _ A ((compTurn (dcE kx vx t0 i0 t1 i1 c0 c1 sc ps) 1 it (.ref D) en).onRaise (fun x => do noteFrame x en; theTreesLotGoes x)) _ _ s
  rw [dc2_turn1]
  refine wpAny_noted (wpAny_bind (wpAny_standAt (wpAny_bind (wpAny_mono (tn n s hJ) (fun r s1 h1 => ?_) fun _ _ q => q))))
  cases r with
  | none => exact wpAny_pure h1
  | some y =>
    refine wpAny_bind (wpAny_mono h1 (fun _ s2 h2 => wpAny_bind (wpAny_mono h2 (fun _ s3 h3 => wpAny_bind (wpAny_mono h3 (fun b s4 h4 => ?_) fun _ _ q => q)) fun _ _ q => q)) fun _ _ q => q)
    cases b with
    | false => exact wpAny_pure ⟨rfl, h4⟩
    | true =>
      exact wpAny_bind (wpAny_bind (wpAny_mono h4 (fun a s5 h5 => wpAny_bind (wpAny_holding (wpAny_mono h5 (fun z s6 h6 => wpAny_bind (wpAny_standAt (wpAny_holding (wpAny_mono h6 (fun _ s7 h7 => wpAny_pure ⟨rfl, h7⟩) fun _ _ q => q)))) fun _ _ q => q))) fun _ _ q => q))
theorem dc2_start1 (h0 : codeAny (model pr w) A (.compLoop (dcE kx vx t0 i0 t1 i1 c0 c1 sc ps) 1 it acc en) R s)
    (h : wpAny (model pr w) A (pyIter it) (fun j s' => codeAny (model pr w) A (.compLoop (dcE kx vx t0 i0 t1 i1 c0 c1 sc ps) 1 j acc en) R s') (nbE pr w A R en) s) :
    codeAny (model pr w) A (.compStart (dcE kx vx t0 i0 t1 i1 c0 c1 sc ps) 1 it acc en) R s := by
  refine codeAny_of_tree (show wpAny _ _ ((compStart (dcE kx vx t0 i0 t1 i1 c0 c1 sc ps) 1 it acc en).onRaise (fun x => do noteFrame x en; standAt theWindowsPlace)) _ _ s from wpAny_notedAt ?_)
  unfold compStart
  refine (show wpAny _ _ (ask >>= _) _ _ s from wpAny_bind (wpAny_askSetting (wpAny_ite ?_)))
  split
  · first | exact wpAny_bind (wpAny_pure (wpAny_pure ⟨rfl, h0⟩)) | exact wpAny_pure ⟨rfl, h0⟩
  · first
      | exact wpAny_bind (wpAny_rule (wpAny_bind (wpAny_standAt (wpAny_bind (wpAny_mono h (fun _ _ q => wpAny_pure ⟨rfl, q⟩) fun _ _ q => q)))))
      | (refine wpAny_bind (wpAny_rule ?_); show wpAny _ _ (standAt i1.pos >>= _) _ _ s; exact wpAny_bind (wpAny_standAt (wpAny_bind (wpAny_mono h (fun _ _ q => wpAny_pure ⟨rfl, q⟩) fun _ _ q => q))))
end
section
variable {X : Cx}
abbrev BlkAll (X : Cx) (sc : Scope) (P : Cx → Prop) : Prop := ∀ (s : Shared) (H : Hp) (C : Addr) (cl : List (Str × Addr)) (fp : List Addr), P (X.blk s H sc (compEnvC sc cl C X.env) fp)
/-- the reading: behind the first target the second source's own walk, from which Nx is reached; vs the block's names, ws those of the second target -/
def tDc2 (wi : TI) (g : TG) (tt : TT) (wj : TI) (gj : TG) (tj : TT) (tk tv : TE) (vs ws : List Nat) : TE := fun σ H Q => wi σ H fun J H1 => ∀ D, H1 D = none → ∃ W : Nat → Nat → Hp → Prop, (∃ m, W 0 m (upd H1 D (.dK []))) ∧ ∀ i m H, W i m H →
  (J.stop i H ∧ Q (.ref D) H) ∨ (J.go i H ∧ ∃ Nx : Hp → Prop, (∀ H', Nx H' → ∃ m', m' < m ∧ W (i + 1) m' H') ∧ ∀ x H', J.yld i H x H' → g x (wipe σ vs) H' fun σ2 H2 => wipe σ2 vs = wipe σ vs ∧ tt σ2 H2 fun b H3 =>
    if b = true then wj σ2 H3 fun L H4 => ∃ Y : Nat → Nat → Hp → Prop, (∃ m, Y 0 m H4) ∧ ∀ j k H, Y j k H →
      (L.stop j H ∧ Nx H) ∨ (L.go j H ∧ ∃ Ny : Hp → Prop, (∀ H', Ny H' → ∃ k', k' < k ∧ Y (j + 1) k' H') ∧ ∀ x H', L.yld j H x H' → gj x (wipe σ2 ws) H' fun σ3 H5 => wipe σ3 ws = wipe σ2 ws ∧ tj σ3 H5 fun b H6 =>
        if b = true then tk σ3 H6 fun y H7 => tv σ3 H7 fun z H8 => ∃ kvs q, y = kV q ∧ H8 D = some (.dK kvs) ∧ kvs.length < sizeLine ∧ Ny (upd H8 D (.dK (putK kvs q z))) else Ny H6)
    else Nx H3)
theorem dc2_core {pins : List (Addr × Obj)} {s : Shared} {σ : L2.St} {H : Hp} {Q : VK} {kx vx t0 i0 t1 i1 : Expr} {c0 c1 : List Expr} {sc : Scope} {own : List (Str × Nat)} {ws : List Nat} {ps ps' : Pos} {wi wj : TI} {g gj : TG} {tt tj : TT} {tk tv : TE} {use : Option (Value → Sem Unit)} {Qf : Value → Shared → Prop}
    (hc : X.calm = true) (hN : X.N.Nodup) (I : L2.Inv X pins σ H s) (hi : PI X t0 i0 wi) (ok : BlkOk X.N X.env.scope sc own) (hv : ∀ i ∈ ws, i ∈ own.map (·.2))
    (hg : BlkAll X sc fun Z => PG Z t0 g) (ht : BlkAll X sc fun Z => PTs Z c0 tt) (hk : BlkAll X sc fun Z => PE Z kx tk) (he : BlkAll X sc fun Z => PE Z vx tv)
    (hj : BlkAll X sc fun Z => PI Z t1 i1 wj) (hgj : BlkAll X sc fun Z => PG Z t1 gj) (htj : BlkAll X sc fun Z => PTs Z c1 tj)
    (hs : ∀ x, foldedSetIterable i0 X.env x = pure x) (hsj : ∀ en x, foldedSetIterable i1 en x = pure x) (h : tDc2 wi g tt wj gj tj tk tv (own.map (·.2)) ws σ H Q)
    (fin0 : ∀ D C s' m H', L2.Inv X pins σ H' s' → Q (.ref D) H' → s'.heap.Ns C m → FpOk X pins H' C → compPost (model X.prog X.w) X.A X.xe use Qf (.ref D) C (.ok .next) s') :
    wpAny (model X.prog X.w) X.A (comprehension (dcE kx vx t0 i0 t1 i1 c0 c1 sc ps) sc X.env ps' newDict false (eval i0 X.env) use) Qf X.xe s := by
  have free : ∀ y ∈ sc.names, y.2 = .free → ∃ c, X.env.cells.lookup y.1 = some c := fun y hy e => (ok.free y hy e).elim (fun q => I.ok.has _ (.inl q)) fun q => I.ok.has _ (.inr q)
  refine wpAny_comprehension_free (use := use) rfl hs (closure_ok free) ok.kind (fun y hy e => (ok.uniq y hy).trans (congrArg some e)) (thn (hi.run pins s σ H _ I h) fun xv s1 hx => thn hx fun itv s2 h2 => ?_)
  obtain ⟨it, fp, tn, J, H2, rfl, I2, T, st2, f2, q⟩ := h2
  refine wpAny_newObj_type (newEnv_comp ?_)
  generalize eD : s2.heap.objs.size = D
  obtain ⟨W, ⟨m0, w0⟩, turn⟩ := q D (I2.hok.fresh (Nat.le_of_eq eD))
  generalize es3 : ({ s2 with heap := s2.heap.push { cls := .type "dict", data := .dict #[] } } : Shared) = s3
  have hp3 : s3.heap = s2.heap.push { cls := .type "dict", data := .dict #[] } := by rw [← es3]
  have keep3 : ∀ b o, s2.heap.get? b = some o → s3.heap.get? b = some o := fun b o e => hp3 ▸ Heap.get?_push_of_some _ e
  have I3 : L2.Inv X pins σ (upd H2 D (.dK [])) s3 := by
    subst es3; subst eD
    exact I2.laid (t' := s2.toks) (fun b o e => Heap.get?_push_of_some _ e) (Nat.le_refl _) (dk_empty s2.heap I2.big)
  have f3 : ∀ b ∈ fp, FpOk X pins (upd H2 D (.dK [])) b ∧ b < s3.heap.objs.size := fun b hb => by
    obtain ⟨o, e, _⟩ := T.obj _ _ st2 b hb
    have lt := Heap.lt_size e
    refine ⟨⟨(upd_ne (by rw [← eD]; exact Nat.ne_of_lt lt)).trans (f2 b hb).1, (f2 b hb).2⟩, ?_⟩
    rw [hp3, Heap.size_push]
    exact Nat.lt_succ_of_lt lt
  have st3 : tn 0 s3.heap := T.keep _ _ _ st2 fun b _ o e => keep3 b o e
  have I4 := block_start I3 ok hN f3
  generalize eC : s3.heap.objs.size = C at I4 f3 ⊢
  generalize ecl : cellsFrom (C + 1) sc.names (cloFrom X.env.cells sc.names []) = cl at I4 ⊢
  have pg := hg s3 (upd H2 D (.dK [])) C cl fp
  have pt := ht s3 (upd H2 D (.dK [])) C cl fp
  have pk := hk s3 (upd H2 D (.dK [])) C cl fp
  have pe := he s3 (upd H2 D (.dK [])) C cl fp
  have pj := hj s3 (upd H2 D (.dK [])) C cl fp
  have pgj := hgj s3 (upd H2 D (.dK [])) C cl fp
  have ptj := htj s3 (upd H2 D (.dK [])) C cl fp
  have frC : ∀ {H' : Hp}, H' C = none → FpOk X pins H' C := fun n => I3.fpOk (Nat.le_of_eq eC) n
  show codeAny _ _ (.compStart (dcE kx vx t0 i0 t1 i1 c0 c1 sc ps) 0 (.ref it) (.ref D) (compEnvC sc cl C X.env)) (compPost (model X.prog X.w) X.A X.xe use Qf (.ref D) C) { s3 with heap := pushCells (s3.heap.push { cls := .type "dict", data := .dict #[] }) sc.names }
  have n3 : ∀ b ∈ fp, (upd H2 D (.dK [])) b = none := fun b hb => (f3 b hb).1.1
  generalize ece : compEnvC sc cl C X.env = ce at I4 pg pt pk pe pj pgj ptj ⊢
  have cL : ce.locals = C := by subst ece; rfl
  generalize eH3 : upd H2 D (.dK []) = H3 at I3 I4 pg pt pk pe pj pgj ptj w0 n3 f3
  generalize es4 : ({ s3 with heap := pushCells (s3.heap.push { cls := .type "dict", data := .dict #[] }) sc.names } : Shared) = s4 at I4 ⊢
  have st4 : tn 0 s4.heap := T.keep _ _ _ st3 fun b _ o e => by rw [← es4]; exact pushCells_keeps _ _ _ _ (Heap.get?_push_of_some _ e)
  generalize eX : X.blk s3 H3 sc ce fp = Z at I4 pg pt pk pe pj pgj ptj
  have zp : Z.prog = X.prog ∧ Z.w = X.w ∧ Z.A = X.A ∧ Z.env = ce := by subst eX; exact ⟨rfl, rfl, rfl, rfl⟩
  subst eX
  have stat : ∀ {σ' : L2.St} {H' : Hp} {s' : Shared}, L2.Inv (X.blk s3 H3 sc ce fp) [] σ' H' s' → (∀ b ∈ fp, H' b = none) → ∀ b ∈ fp, FpOk (X.blk s3 H3 sc ce fp) [] H' b := fun {σ' H' s'} I' hn b hb =>
    ⟨hn b hb, (I'.ok.exf b hb).1, I'.ok.exfs b hb, .inl hb, fun x c e => (I'.ok.exf b hb).2 x c e, fun p hp => absurd (show p ∈ ([] : List (Addr × Obj)) from hp) (by simp)⟩
  have loop : codeAny (model X.prog X.w) X.A (.compLoop (dcE kx vx t0 i0 t1 i1 c0 c1 sc ps) 0 (.ref it) (.ref D) ce) (compPost (model X.prog X.w) X.A X.xe use Qf (.ref D) C) s4 := by
    refine dc2_loop0 (hsj ce) (fun n s' => ∃ i H', L2.Inv (X.blk s3 H3 sc ce fp) [] (wipe σ (own.map (·.2))) H' s' ∧ tn i s'.heap ∧ (∀ b ∈ fp, H' b = none) ∧ W i n H') ?_ m0 ⟨0, H3, I4, st4, n3, w0⟩
    rintro n s5 ⟨i, H5, I5, st5, n5, w5⟩
    rcases turn i n H5 w5 with ⟨stop, qq⟩ | ⟨go, Nx, hNx, step⟩
    · refine thnF (T.done (X.blk s3 H3 sc ce fp) rfl rfl rfl hc i [] s5 _ H5 (fun _ _ => False) I5 (stat I5 n5) st5 stop) fun r s6 ⟨hr, I6⟩ => ?_
      subst hr
      have nC : H5 C = none := by rw [← cL]; exact I6.free
      obtain ⟨m, hn, _⟩ := I6.loc
      have hn' : s6.heap.Ns C m := by rw [← cL]; exact hn
      exact fin0 D C s6 m H5 (I3.call' (ch := fp) I6.os I6.base I6.hok I6.bare fun b hb => ⟨(f3 b hb).1.2.2.2.1, (f3 b hb).1.2.1, (f3 b hb).1.2.2.2.2.1, (f3 b hb).1.2.2.2.2.2⟩) qq hn' (frC nC)
    · refine thnF (T.item (X.blk s3 H3 sc ce fp) rfl rfl rfl hc i [] s5 _ H5 (fun _ _ => False) I5 (stat I5 n5) st5 go) fun r s6 ⟨u, hr, h6⟩ => ?_
      subst hr
      refine thnF h6 fun _ s7 ⟨x, H7, I7, r7, y7, st7, n7⟩ => ?_
      refine thnF (pg.run _ s7 _ H7 x u _ (I7.pinned (stat I7 n7) (T.obj _ _ st7)) r7 (step x H7 y7)) fun _ s8 ⟨σ8, H8, I8, hw8, q8⟩ => thnF (pt.run _ s8 σ8 H8 _ I8 q8) fun b s9 ⟨H9, I9, q9⟩ => ?_
      have kept8 : ∀ (j : Nat) v, (wipe σ (own.map (·.2)))[j]? = some (some v) → σ8[j]? = some (some v) := fun j v e => (wipe_some (hw8 ▸ e)).1
      have keptY : ∀ (j : Nat) v, (wipe σ (own.map (·.2)))[j]? = some (some v) → (wipe σ8 ws)[j]? = some (some v) := fun j v e => by
        obtain ⟨e1, e2⟩ := wipe_some (hw8 ▸ e : (wipe σ8 (own.map (·.2)))[j]? = some (some v))
        exact (wipe_out fun z => e2 (hv j z)).trans e1
      have len8 : (wipe σ (own.map (·.2))).length = σ8.length := (congrArg List.length hw8.symm).trans (wipe_length σ8 _)
      have fin : ∀ {σ9 : L2.St} {s' : Shared} {H' : Hp}, L2.Inv (X.blk s3 H3 sc ce fp) ([] ++ pinsAt fp s7.heap) σ9 H' s' → (wipe σ (own.map (·.2))).length = σ9.length → (∀ (j : Nat) v, (wipe σ (own.map (·.2)))[j]? = some (some v) → σ9[j]? = some (some v)) → Nx H' →
          ∃ m, m < n ∧ ∃ i H', L2.Inv (X.blk s3 H3 sc ce fp) [] (wipe σ (own.map (·.2))) H' s' ∧ tn i s'.heap ∧ (∀ b ∈ fp, H' b = none) ∧ W i m H' := fun {σ9 s' H'} I' hl hk nx => by
        obtain ⟨m', hm, w'⟩ := hNx H' nx
        have pin : ∀ b ∈ fp, ∀ o, s7.heap.get? b = some o → s'.heap.get? b = some o ∧ H' b = none := fun b hb o e => by
          have z := I'.pin (b, o) (List.mem_append_right _ (List.mem_append_right _ (mem_pinsAt hb e)))
          exact ⟨z.1, z.2.1⟩
        refine ⟨m', hm, i + 1, H', (I'.unpinned (pins := [])).weak hl hk, T.keep _ _ _ st7 fun b hb o e => (pin b hb o e).1, fun b hb => ?_, w'⟩
        obtain ⟨o, e, _⟩ := T.obj _ _ st7 b hb
        exact (pin b hb o e).2
      cases b with
      | false => exact fin I9 len8 kept8 q9
      | true =>
        refine thnF (pj.run _ s9 σ8 H9 _ I9 q9) fun xv s10 hx => thnF hx fun itv s11 h11 => ?_
        obtain ⟨it1, fp1, tn1, L, H11, rfl, I11, T1, st11, f11, Y, ⟨m1, w1⟩, turn1⟩ := h11
        have stat1 : ∀ {H' : Hp}, (∀ b ∈ fp1, H' b = none) → ∀ b ∈ fp1, FpOk (X.blk s3 H3 sc ce fp) ([] ++ pinsAt fp s7.heap) H' b := fun hn b hb => ⟨hn b hb, (f11 b hb).2⟩
        have loop1 : codeAny (model X.prog X.w) X.A (.compLoop (dcE kx vx t0 i0 t1 i1 c0 c1 sc ps) 1 (.ref it1) (.ref D) ce)
            (fun r s' => match r with
              | .ok _ => ∃ m, m < n ∧ ∃ i H', L2.Inv (X.blk s3 H3 sc ce fp) [] (wipe σ (own.map (·.2))) H' s' ∧ tn i s'.heap ∧ (∀ b ∈ fp, H' b = none) ∧ W i m H'
              | .error _ => False) s11 := by
          refine dc2_loop1 (fun k s' => ∃ j H', L2.Inv (X.blk s3 H3 sc ce fp) ([] ++ pinsAt fp s7.heap) (wipe σ8 ws) H' s' ∧ tn1 j s'.heap ∧ (∀ b ∈ fp1, H' b = none) ∧ Y j k H') ?_ m1 ⟨0, H11, I11.weak (wipe_length _ _) (fun j v e => (wipe_some e).1), st11, fun b hb => (f11 b hb).1, w1⟩
          rintro k s12 ⟨j, H12, I12, st12, n12, w12⟩
          rcases turn1 j k H12 w12 with ⟨stop1, nx1⟩ | ⟨go1, Ny, hNy, step1⟩
          · refine thnF (T1.done (X.blk s3 H3 sc ce fp) rfl rfl rfl hc j _ s12 (wipe σ8 ws) H12 (fun _ _ => False) I12 (stat1 n12) st12 stop1) fun r s13 ⟨hr, I13⟩ => ?_
            subst hr
            exact fin I13 (len8.trans (wipe_length σ8 ws).symm) keptY nx1
          · refine thnF (T1.item (X.blk s3 H3 sc ce fp) rfl rfl rfl hc j _ s12 (wipe σ8 ws) H12 (fun _ _ => False) I12 (stat1 n12) st12 go1) fun r s13 ⟨u1, hr, h13⟩ => ?_
            subst hr
            refine thnF h13 fun _ s14 ⟨x1, H14, I14, r14, y14, st14, n14⟩ => ?_
            refine thnF (pgj.run _ s14 (wipe σ8 ws) H14 x1 u1 _ (I14.pinned (stat1 n14) (T1.obj _ _ st14)) r14 (step1 x1 H14 y14)) fun _ s15 ⟨σ15, H15, I15, hw15, q15⟩ => thnF (ptj.run _ s15 σ15 H15 _ I15 q15) fun b1 s16 ⟨H16, I16, q16⟩ => ?_
            have fin1 : ∀ {s' : Shared} {H' : Hp}, L2.Inv (X.blk s3 H3 sc ce fp) (([] ++ pinsAt fp s7.heap) ++ pinsAt fp1 s14.heap) σ15 H' s' → Ny H' → ∃ m, m < k ∧ ∃ j H', L2.Inv (X.blk s3 H3 sc ce fp) ([] ++ pinsAt fp s7.heap) (wipe σ8 ws) H' s' ∧ tn1 j s'.heap ∧ (∀ b ∈ fp1, H' b = none) ∧ Y j m H' := fun {s' H'} I' nx => by
              obtain ⟨m', hm, w'⟩ := hNy H' nx
              have pin : ∀ b ∈ fp1, ∀ o, s14.heap.get? b = some o → s'.heap.get? b = some o ∧ H' b = none := fun b hb o e => by
                have z := I'.pin (b, o) (List.mem_append_right _ (List.mem_append_right _ (mem_pinsAt hb e)))
                exact ⟨z.1, z.2.1⟩
              refine ⟨m', hm, j + 1, H', I'.unpinned.weak ((congrArg List.length hw15.symm).trans (wipe_length σ15 _)) (fun j v e => (wipe_some (hw15 ▸ e)).1), T1.keep _ _ _ st14 fun b hb o e => (pin b hb o e).1, fun b hb => ?_, w'⟩
              obtain ⟨o, e, _⟩ := T1.obj _ _ st14 b hb
              exact (pin b hb o e).2
            cases b1 with
            | false => exact fin1 I16 q16
            | true =>
              refine thnF (pk.run _ s16 σ15 H16 _ I16 q16) fun a s17 ⟨yk, H17, I17, r17, q17⟩ => thnF (pe.run _ s17 σ15 H17 _ I17 q17) fun z s18 ⟨yv, H18, I18, r18, kvs, key, ek, hD18, hz18, nx⟩ => ?_
              subst ek
              exact d_dictSet (X := X.blk s3 H3 sc ce fp) I18 hD18 hz18 r17 r18 fun s19 I19 => fin1 I19 nx
        exact dc2_start1 loop1 (T1.self X.A 0 _ _ _ st11 loop1)
  exact codeAny_compStart_dict loop (T.self X.A 0 _ _ _ st4 loop)
theorem pe_dc2 {kx vx t0 i0 t1 i1 : Expr} {c0 c1 : List Expr} {sc : Scope} {own : List (Str × Nat)} {ws : List Nat} {ps : Pos} {wi wj : TI} {g gj : TG} {tt tj : TT} {tk tv : TE} (hc : X.calm = true) (hN : X.N.Nodup) (hi : PI X t0 i0 wi) (ok : BlkOk X.N X.env.scope sc own) (hv : ∀ i ∈ ws, i ∈ own.map (·.2))
    (hg : ∀ (s : Shared) (H : Hp) (C : Addr) (cl : List (Str × Addr)) (fp : List Addr), PG (X.blk s H sc (compEnvC sc cl C X.env) fp) t0 g) (ht : ∀ (s : Shared) (H : Hp) (C : Addr) (cl : List (Str × Addr)) (fp : List Addr), PTs (X.blk s H sc (compEnvC sc cl C X.env) fp) c0 tt) (hj : ∀ (s : Shared) (H : Hp) (C : Addr) (cl : List (Str × Addr)) (fp : List Addr), PI (X.blk s H sc (compEnvC sc cl C X.env) fp) t1 i1 wj) (hgj : ∀ (s : Shared) (H : Hp) (C : Addr) (cl : List (Str × Addr)) (fp : List Addr), PG (X.blk s H sc (compEnvC sc cl C X.env) fp) t1 gj) (htj : ∀ (s : Shared) (H : Hp) (C : Addr) (cl : List (Str × Addr)) (fp : List Addr), PTs (X.blk s H sc (compEnvC sc cl C X.env) fp) c1 tj) (hk : ∀ (s : Shared) (H : Hp) (C : Addr) (cl : List (Str × Addr)) (fp : List Addr), PE (X.blk s H sc (compEnvC sc cl C X.env) fp) kx tk) (he : ∀ (s : Shared) (H : Hp) (C : Addr) (cl : List (Str × Addr)) (fp : List Addr), PE (X.blk s H sc (compEnvC sc cl C X.env) fp) vx tv)
    (hs : ∀ x, foldedSetIterable i0 X.env x = pure x := by intro _; rfl) (hsj : ∀ en x, foldedSetIterable i1 en x = pure x := by intro _ _; rfl) :
    PE X (dcE kx vx t0 i0 t1 i1 c0 c1 sc ps) (tDc2 wi g tt wj gj tj tk tv (own.map (·.2)) ws) := ⟨fun pins s σ H Q I h => by
  rw [arm_eval_DictComp]
  refine dc2_core hc hN I hi ok hv hg ht hk he hj hgj htj hs hsj h fun D C s' m H' I' q hn f => ⟨m, hn, fun h2 sb => ?_⟩
  obtain ⟨f0, f1, f2, f3, f4, f5⟩ := f
  exact ⟨.ref D, H', I'.turned (t' := s'.toks) (fun b o hb e => (sb.2 b hb).trans e) f0 f1 f3 f4 f5, rfl, q⟩⟩
end
end Lf

set_option maxHeartbeats 4000000
namespace Lf
open PySem PySem.Spec PyProof.Rows L2

/-! ## enumerate of a tuple -/
section
open AutoSeq1 (wpAny_loadPart')
abbrev itT (a : Addr) : Obj := { cls := .type "tuple_iterator", data := .fields #[.ref a, .int 0 0] }
abbrev enT (n : Nat) : Obj := { cls := .type "enumerate", data := .fields #[.none, .bool false, .ref n, rawInt 0, .none, .none] }
set_option maxHeartbeats 4000000 in
theorem enumT_new (a : Addr) (items : Array Value) (n : Nat) (dc : Option Addr) (sl : Array (Option Value)) :
    Meets (Builtin.«enumerate.__new__» ⟨[.type "enumerate", .ref a], []⟩) (fun _ R s => s.heap.get? a = some { cls := .type "tuple", dict := dc, data := .seq items n, slots := sl } ∧
      R (.ok (.ret (.ref (s.heap.push (itT a)).objs.size))) { s with heap := (s.heap.push (itT a)).push (enT s.heap.objs.size) }) := .of_wp fun pr w A R s h => by
  obtain ⟨hp, g, d, tk, os⟩ := s
  obtain ⟨ha, h⟩ := h
  have hsub := sub_enumerate
  have hT : Heap.IsTuple (Shared.heap ⟨hp, g, d, tk, os⟩) a items := ⟨_, ha, rfl, n, rfl⟩
  wp_walk using wpAny_loadPart' ha
  refine wpAny_stack_any fun st => wpAny_pure ?_
  split
  · rename_i c _ _ _ _ _
    cases (c == Value.type "enumerate") <;> (wp_walk using wpAny_loadPart' ha, wpAny_pyIter_tuple hT; exact ⟨_, rfl, h⟩)
  · wp_walk using wpAny_loadPart' ha, wpAny_pyIter_tuple hT
    exact ⟨_, rfl, h⟩
theorem call_enumT {pr : Program} {w : World} {A : Around} {E : Value → Shared → Prop} {s : Shared} {a : Addr} {items : Array Value} {Q : Value → Shared → Prop} (hT : s.heap.IsTuple a items)
    (h : ∀ h', IsEnum h' (s.heap.objs.size + 1) s.heap.objs.size 0 .none → h'.IsTupleIter s.heap.objs.size a 0 → (∀ b o, s.heap.get? b = some o → h'.get? b = some o) → Q (.ref (s.heap.objs.size + 1)) { s with heap := h' }) :
    wpAny (model pr w) A (call (.type "enumerate") [.ref a]) Q E s := by
  obtain ⟨⟨c, dc, dt, sl⟩, ha, hc, n, hd⟩ := hT
  have hc : c = .type "tuple" := hc
  have hd : dt = .seq items n := hd
  subst hc; subst hd
  have hz : (s.heap.push (itT a)).objs.size = s.heap.objs.size + 1 := Heap.size_push ..
  refine callType_new F.called_enumerate (by decide) (F.typeCall_enumerate_1 _) (F.newCall_enumerate_1 _) (fun obj => F.args_object_init_2 obj _) F.entry_enumerate_new (enumT_new a items n dc sl) ⟨ha, (show _ ∧ _ from ?_)⟩
  have he : ((s.heap.push (itT a)).push (enT s.heap.objs.size)).get? (s.heap.push (itT a)).objs.size = some (enT s.heap.objs.size) := Heap.get?_push_size _ rfl
  rw [hz] at he ⊢
  exact ⟨⟨_, he, rfl⟩, h _ he ⟨_, Heap.get?_push_of_some _ (Heap.get?_push_size _ rfl), rfl, rfl⟩ fun b o x => Heap.get?_push_of_some _ (Heap.get?_push_of_some _ x)⟩
end
/-- the tuple at a, each item with its place in a new pair -/
def ItEt (K : PySem.W.Frag) (a : Addr) : It :=
  ⟨fun i H => ∃ (xs : List V) (x : V), SqT K H a xs ∧ xs[i]? = some x,
    fun i H v H' => ∃ T x, v = .ref T ∧ H T = none ∧ H' = upd H T (.tup [.int (i : Nat), x]) ∧ ∀ xs, SqT K H a xs → xs[i]? = some x,
    fun i H => ∃ xs : List V, SqT K H a xs ∧ xs.length = i⟩
theorem turn_enumT {P : Program} {w : World} {K : PySem.W.Frag} {elts : List Expr} {kk : Nat} {tpos : Pos} (a e it : Addr) :
    Turn P w K (.Tuple elts kk tpos) (ItEt K a) [e, it] e (fun i h => (∃ old, IsEnum h e it ((i : Nat) : Int) old) ∧ h.IsTupleIter it a i ∧ e ≠ it ∧ e ≠ a ∧ a ≠ it) where
  mem := by simp
  obj := fun i h st b hb => by
    obtain ⟨⟨old, he⟩, ⟨o, ho, hc, hd⟩, _⟩ := st
    have e' : b = e ∨ b = it := by simpa using hb
    rcases e' with z | z
    · exact z ▸ ⟨_, he, fun v q => nomatch q⟩
    · exact z ▸ ⟨o, ho, fun v q => by rw [hd] at q; cases q⟩
  keep := fun i h h' st k => ⟨st.1.imp fun old he => k e (by simp) _ he, st.2.1.at fun o q => k it (by simp) o q, st.2.2⟩
  item := by
    intro X hP hw hK hc i pins s σ H E I hf st hg
    subst hP hw hK
    obtain ⟨⟨old, he⟩, hit, hne, hea, hai⟩ := st
    obtain ⟨xs, x, hq, hx⟩ := hg
    obtain ⟨its, rv, p, hz⟩ := I.tuple hq
    obtain ⟨u, hu, ru⟩ := rv.get hx
    have hT : s.heap.IsTuple a its.toArray := by
      obtain ⟨o, e1, c, m, q⟩ := p
      exact ⟨o, e1, c, m, q⟩
    have hel : e < s.heap.objs.size := Heap.lt_size he
    have hil : it < s.heap.objs.size := let ⟨_, q, _⟩ := hit; Heap.lt_size q
    have hlt : i < its.toArray.size := by
      have : i < its.length := (List.getElem?_eq_some_iff.mp hu).1
      simpa using this
    refine wpAny_pyNext_enum_itemD (Draws.tuple (A := X.A.in1) (I.ok.hd hc) it a hai its.toArray) he ⟨hit, hT⟩ hlt hne (by simp [hne, hea]) fun y h' tk hy ho hs' hT3 hsz hk => ?_
    have hyu : y = u := by
      have hy' : its[i]? = some y := by simpa using hy
      rw [hu] at hy'
      exact (Option.some.inj hy').symm
    subst hyu
    refine ⟨_, rfl, wpAny_letOwnedTupleGo_enum (s := { s with heap := h', toks := tk + 1 }) ho fun h'' he' sb => ?_⟩
    have hT2 : h''.get? s.heap.objs.size = some { cls := .type "tuple", data := .seq #[.int i tk, y] } := (sb.2 _ (Nat.ne_of_gt hel)).trans hT3
    have I1 : L2.Inv X pins σ (upd H s.heap.objs.size (.tup [.int (i : Nat), x])) { s with heap := h'', toks := tk + 1 } :=
      I.turnedNew (t' := tk + 1) (ch := [e, it]) (fun b ob hb q => (sb.2 b (fun z => hb (by simp [z]))).trans (hk b ob (fun z => hb (by simp [z])) (fun z => hb (by simp [z])) q)) hf (Nat.le_refl _)
        ⟨(by show 2 ≤ sizeLine; decide), [.int i tk, y], .cons ⟨_, rfl⟩ (.cons ru .nil), ⟨_, hT2, rfl, _, rfl⟩⟩
    refine ⟨.ref s.heap.objs.size, _, I1, rfl, ⟨_, x, rfl, I.hok.fresh (Nat.le_refl _), rfl, fun ys hy => by rw [I.tuple_inj hy hq]; exact hx⟩, ⟨⟨y, ?_⟩, hs'.1.at fun o q => (sb.2 it (Ne.symm hne)).trans q, hne, hea, hai⟩, fun b hb => ?_⟩
    · rw [show ((i + 1 : Nat) : Int) = (i : Int) + 1 by omega]
      exact he'
    · have e' : b = e ∨ b = it := by simpa using hb
      have hb' : b < s.heap.objs.size := by rcases e' with z | z <;> rw [z] <;> assumption
      exact (upd_ne (Nat.ne_of_lt hb')).trans (hf b hb).1
  done := by
    intro X hP hw hK hc i pins s σ H E I hf st hg
    subst hP hw hK
    obtain ⟨⟨old, he⟩, hit, hne, hea, hai⟩ := st
    obtain ⟨xs, hq, hx⟩ := hg
    obtain ⟨its, rv, p, hz⟩ := I.tuple hq
    obtain ⟨f0, f1, f2, f3, f4, f5⟩ := hf it (by simp)
    have hT : s.heap.IsTuple a its.toArray := by
      obtain ⟨o, e1, c, m, q⟩ := p
      exact ⟨o, e1, c, m, q⟩
    have hi : i = its.toArray.size := by
      have := rv.length
      simp
      omega
    exact wpAny_pyNext_enum_endD (Draws.tuple (A := X.A.in1) (I.ok.hd hc) it a hai its.toArray) he ⟨hi ▸ hit, hT⟩ fun h' eb => ⟨rfl, I.turned (t' := s.toks) (fun b o hb q => eb b o hb q) f0 f1 f3 f4 f5⟩
  self := fun A i s Q E st h => let ⟨⟨_, he⟩, _⟩ := st; wpAny_pyIter_enum he h
theorem walk_enumT {K : PySem.W.Frag} {a : Addr} {xs : List V} : Walk (ItEt K a) xs.length (fun H => SqT K H a xs) (YPair (fun i => some (.int (i : Nat))) (fun i => xs[i]?)) := by
  refine ⟨fun i _ hi q => ⟨xs, xs[i], q, by simp [hi]⟩, fun _ q => ⟨xs, q, rfl⟩, fun i H v H' _ q y => ?_⟩
  obtain ⟨T, x, h1, h2, h3, h4⟩ := y
  exact ⟨T, .int (i : Nat), x, h1, h2, h3, rfl, h4 xs q⟩
def iEnumT (K : PySem.W.Frag) (ta : TA) : TI := fun σ H R => ta σ H fun vs H1 => ∃ a xs, vs = [.ref a] ∧ SqT K H1 a xs ∧ R (ItEt K a) H1
theorem pi_enumT {X : Cx} {e : Expr} {ta : TA} {p pos tpos : Pos} {elts : List Expr} {kk : Nat} (hg : Gl X "enumerate") (hm : X.mg "enumerate" = none) (ha : PA X [e] ta) (hs : starEach [e] X.env = [(false, eval e X.env)] := by rfl) :
    PI X (.Tuple elts kk tpos) (.Call (.Name "enumerate" p) [e] [] pos) (iEnumT X.K ta) := ⟨fun pins s σ H R I h => by
  refine Call_ (ld_blt I hg hm boot_enumerate (PyProof.Rows.callWith_type1 (thn (ha.run pos pins s σ H _ I h) fun us s1 ⟨vs, H1, I1, r1, a, xs, ex, hq, q⟩ => ?_) hs rfl))
  subst ex
  obtain ⟨u, rfl, r⟩ := vals1 r1
  cases r
  obtain ⟨its, rv, pl, hz⟩ := I1.tuple hq
  have hT : s1.heap.IsTuple a its.toArray := by
    obtain ⟨o, e1, c, m, q⟩ := pl
    exact ⟨o, e1, c, m, q⟩
  have hal : a < s1.heap.objs.size := let ⟨_, e1, _⟩ := hT; Heap.lt_size e1
  refine call_enumT hT fun h' he hit hk => wpAny_pyIter_enum he ?_
  have I2 : L2.Inv X pins σ H1 { s1 with heap := h' } := I1.kept (t' := s1.toks) hk
  refine ⟨s1.heap.objs.size + 1, [s1.heap.objs.size + 1, s1.heap.objs.size], _, _, H1, rfl, I2, turn_enumT a (s1.heap.objs.size + 1) s1.heap.objs.size, ⟨⟨.none, he⟩, hit, Nat.succ_ne_self _, Nat.ne_of_gt (Nat.lt_succ_of_lt hal), Nat.ne_of_lt hal⟩, fun b hb => ?_, q⟩
  have e' : b = s1.heap.objs.size + 1 ∨ b = s1.heap.objs.size := by simpa using hb
  have hle : s1.heap.objs.size ≤ b := e'.elim (fun z => z ▸ Nat.le_succ _) fun z => z ▸ Nat.le_refl _
  exact I1.fpOk hle (I1.hok.fresh hle)⟩
end Lf

set_option maxHeartbeats 4000000
namespace Lf
open PySem PySem.Spec PyProof.Rows L2

/-! ## tuple(a text) -/
def signV (x : Str) : List V := x.cps.toList.map fun c => V.str ⟨#[c]⟩
def rTupS : List V → Hp → VK → Prop := fun xs H Q => ∃ x, xs = [V.str x] ∧ x.length ≤ 1000 ∧ ∀ p, H p = none → Q (.ref p) (upd H p (.tup (signV x)))
theorem cr_tupS {X : Cx} (hc : X.calm = true) : CallR X (.type "tuple") rTupS := by
  intro pins s σ H xs us Q I r h
  obtain ⟨x, rfl, hx, q⟩ := h
  obtain ⟨u, rfl, rx⟩ := vals1 r
  obtain ⟨t, rfl⟩ := rx
  have hz : x.cps.size ≤ sizeLine := Nat.le_of_lt (small1000 hx)
  refine call_tuple_str (I.ok.hd hc) x t (fun h' tk acc hk hacc => ?_) hz
  have I1 : L2.Inv X pins σ H { s with heap := h', toks := tk } := I.kept (t' := tk) hk
  have hl : (signV x).length = acc.toList.length := by
    unfold signV
    rw [List.length_map, Array.length_toList, Array.length_toList, hacc.1]
  have hv : Vals (signV x) acc.toList := vals_of_at hl fun j y u e1 e2 => by
    obtain ⟨c, tk, e3, e4⟩ := hacc.2 j u (by rw [← Array.getElem?_toList]; exact e2)
    unfold signV at e1
    rw [List.getElem?_map, Array.getElem?_toList, e3] at e1
    cases e1
    exact ⟨tk, e4⟩
  have e : acc.toList.toArray = acc := by simp
  have new : ObjOk X.prog X.w (upd H h'.objs.size (.tup (signV x))) (h'.push { cls := .type "tuple", data := .seq acc }) h'.objs.size (.tup (signV x)) := by
    refine ⟨?_, acc.toList, hv, ?_⟩
    · rw [hl, Array.length_toList, hacc.1]
      exact hz
    · rw [e]
      exact IsTup.new _ _
  exact ⟨.ref h'.objs.size, _, I1.laid (t' := tk) (fun b o e => Heap.get?_push_of_some _ e) (Nat.le_refl _) new, rfl, q _ (I1.hok.fresh (Nat.le_refl _))⟩

/-! ## a tuple's slice by steps -/
/-- where it begins, how many places -/
def stepP (n : Nat) (lo : Option Int) (c : Int) : Int × Nat := ((Builtin.Slice.sliceAdjust lo none c n).1, Builtin.Slice.slicePlaces (Builtin.Slice.sliceAdjust lo none c n).1 (Builtin.Slice.sliceAdjust lo none c n).2 c)
def stepL {α : Type} (xs : List α) (p : Int × Nat) (c : Int) : List α := (List.range p.2).filterMap fun (k : Nat) => xs[(p.1 + (k : Int) * c).toNat]?
theorem stepL_len {α : Type} (xs : List α) (p : Int × Nat) (c : Int) : (stepL xs p c).length ≤ p.2 := by
  refine Nat.le_trans (List.length_filterMap_le _ _) ?_
  rw [List.length_range]
  exact Nat.le_refl _
theorem vals_stepL {xs : List V} {us : List Value} (r : Vals xs us) (p : Int × Nat) (c : Int) : Vals (stepL xs p c) (stepL us p c) := by
  unfold stepL
  generalize List.range p.2 = ks
  induction ks with
  | nil => exact .nil
  | cons k ks ih =>
    rw [List.filterMap_cons, List.filterMap_cons]
    cases e : xs[(p.1 + (k : Int) * c).toNat]? with
    | none =>
      have e2 : us[(p.1 + (k : Int) * c).toNat]? = none := by
        rw [List.getElem?_eq_none_iff] at e ⊢
        rw [← r.length]
        exact e
      rw [e2]
      exact ih
    | some x =>
      obtain ⟨u, eu, ru⟩ := r.get e
      rw [eu]
      exact .cons ru ih
section
variable {X : Cx}
theorem applied_step {pr : Program} {w : World} {A : Around} {E : Value → Shared → Prop} {s : Shared} {sl : Addr} {vl vs : Value} {lo : Option Int} {c : Int} {n : Nat} {Q : Int × Int × Nat → Shared → Prop} (hs : s.heap.IsSliceOf sl vl .none vs) (pl : IsPart vl lo) (ps : IsPart vs (some c)) (hc0 : c ≠ 0)
    (h : Q ((stepP n lo c).1, c, (stepP n lo c).2) s) : wpAny (model pr w) A (Builtin.Slice.sliceApplied (.ref sl) (pure (n : Int))) Q E s := by
  obtain ⟨os, hos, hcs, hds⟩ := id hs
  unfold Builtin.Slice.sliceApplied Builtin.Slice.sliceFields
  refine wpAny_bind (wpAny_bind (wpAny_field hos hds (x := vl) rfl (wpAny_bind (wpAny_field hos hds (x := .none) rfl (wpAny_bind (wpAny_field hos hds (x := vs) rfl (wpAny_pure ?_)))))))
  refine wpAny_bind (HT.slicePart_ ps (show wpAny _ _ (if (c == 0) = true then _ else _) _ _ s from ?_))
  rw [if_neg (by simpa using hc0)]
  refine wpAny_bind (HT.slicePart_ pl (wpAny_bind (HT.slicePart_ .none (wpAny_bind (wpAny_pure ?_)))))
  exact wpAny_pure h
theorem getItem_step {pr : Program} {w : World} {A : Around} {E : Value → Shared → Prop} {s : Shared} {t sl : Addr} {items : Array Value} {vl vs : Value} {lo : Option Int} {c : Int} {Q : Value → Shared → Prop} (ht : IsTup s.heap t items) (hs : s.heap.IsSliceOf sl vl .none vs) (pl : IsPart vl lo) (ps : IsPart vs (some c)) (hc0 : c ≠ 0) (hc1 : c ≠ 1)
    (hn : (stepP items.size lo c).2 ≤ 1000) (h : Q (.ref s.heap.objs.size) { s with heap := s.heap.push { cls := .type "tuple", data := .seq (stepL items.toList (stepP items.size lo c) c).toArray } }) : wpAny (model pr w) A (getItem (.ref t) (.ref sl)) Q E s := by
  have hz : sizeOk (.seq (stepL items.toList (stepP items.size lo c) c).toArray) := by
    show (stepL items.toList (stepP items.size lo c) c).toArray.size ≤ sizeLine
    rw [List.size_toArray]
    exact Nat.le_of_lt (small1000 (Nat.le_trans (stepL_len _ _ _) hn))
  obtain ⟨os, hos, hcs, hds⟩ := id hs
  have hTs : s.TypeIs (.ref sl) "slice" := ⟨os, hos, hcs⟩
  unfold getItem
  try with_reducible refine wpAny_holding ?_
  first | refine wpAny_bind (wpAny_pure ?_) | skip
  refine wpAny_bind (wpAny_sequenceKey ht.typeIs (by decide) (wpAny_bind (wpAny_callSpecial?_slot (name := Str.ofString "__getitem__") ht.typeIs PyProof.Rows.slot_tuple_getitem (wpAny_call_entry PyProof.Rows.slot_tuple_getitem ht.typeIs PyProof.Rows.entry_tuple_getitem ?_ (PyProof.Rows.args_tuple_getitem _ _)))))
  show wpAny _ _ (Builtin.Tuple.tupleItemsOf (.ref t) >>= _) _ _ s
  refine wpAny_bind (PyProof.Rows.tupleItemsOf_ ht (wpAny_bind (wpAny_typeOf hTs ?_)))
  rw [if_pos (by decide)]
  refine wpAny_bind (applied_step hs pl ps hc0 ?_)
  have hno : ¬ (((stepP items.size lo c).1 == 0 && c == 1 && (stepP items.size lo c).2 == items.size) = true) := by
    intro q
    rw [Bool.and_eq_true, Bool.and_eq_true] at q
    exact hc1 (eq_of_beq q.1.2)
  show wpAny _ _ (if ((stepP items.size lo c).1 == 0 && c == 1 && (stepP items.size lo c).2 == items.size) = true then _ else _) _ _ s
  rw [if_neg hno]
  have ep : ((List.range (stepP items.size lo c).2).filterMap fun (k : Nat) => items[((stepP items.size lo c).1 + (k : Int) * c).toNat]?).toArray = (stepL items.toList (stepP items.size lo c) c).toArray := by
    unfold stepL
    congr 1
    refine congrArg (fun f => List.filterMap f _) ?_
    funext k
    exact Array.getElem?_toList.symm
  rw [ep]
  first
    | exact wpAny_bind (m := Builtin.Tuple.tupleExact _) (wpAny_newObj_type (wpAny_pure ⟨_, rfl, wpAny_pure h⟩) hz)
    | exact wpAny_bind (m := Builtin.Tuple.tupleExact _) (wpAny_newObj_type (wpAny_bind (wpAny_pure (wpAny_pure ⟨_, rfl, wpAny_pure h⟩))) hz)
    | exact wpAny_bind (wpAny_bind (m := Builtin.Tuple.tupleExact _) (wpAny_newObj_type (wpAny_pure (wpAny_pure ⟨_, rfl, wpAny_pure h⟩)) hz))
    | exact wpAny_bind (wpAny_bind (m := Builtin.Tuple.tupleExact _) (wpAny_newObj_type (wpAny_pure ⟨_, rfl, wpAny_pure h⟩) hz))
/-- t[lo::c] of a tuple -/
def tStep (K : PySem.W.Frag) (c : Int) (te : TE) (tl : TO) : TE := fun σ H Q => te σ H fun x H1 => tl σ H1 fun l H2 => ∃ a xs, x = .ref a ∧ SqT K H2 a xs ∧ (stepP xs.length l c).2 ≤ 1000 ∧ ∀ p, H2 p = none → Q (.ref p) (upd H2 p (.tup (stepL xs (stepP xs.length l c) c)))
theorem pe_step {e : Expr} {te : TE} {lo : Option Expr} {tl : TO} {i : Int} {k : Nat} {p1 p3 pos : Pos} (he : PE X e te) (hl : PO X lo tl) (h0 : i ≠ 0 := by decide) (h1 : i ≠ 1 := by decide) :
    PE X (.Subscript e (.Slice lo none (some (.Constant (.int i) k p1)) p3) pos) (tStep X.K i te tl) := ⟨fun pins s σ H Q I h => by
  refine Subscript_ (thn (he.run pins s σ H _ I h) fun v s1 ⟨x, H1, I1, r1, q1⟩ => wpAny_Slice (thn (hl.run pins s1 σ H1 _ I1 q1) fun vl s2 ⟨l, H2, I2, pl, q2⟩ => ?_))
  obtain ⟨a, xs, ex, hx, hn, q⟩ := q2
  subst ex
  cases r1
  refine thn (po_none.run pins s2 σ H2 (fun o H3 => o = none ∧ H3 = H2) I2 ⟨rfl, rfl⟩) fun vu s3 ⟨u, H3, I3, pu, eu, e3⟩ => ?_
  subst eu e3
  have vn : vu = Value.none := by cases pu; rfl
  subst vn
  have hst : PO X (some (.Constant (.int i) k p1)) (tPart (tC (.int i))) := po_some pe_int
  refine thn (hst.run pins s3 σ H3 (fun o H4 => o = some i ∧ H4 = H3) I3 ⟨i, rfl, rfl, rfl⟩) fun vs s4 ⟨o, H4, I4, ps, eo, e4⟩ => ?_
  subst eo e4
  have I5 : L2.Inv X pins σ H4 { s4 with heap := s4.heap.push { cls := .type "slice", data := .fields #[vl, .none, vs] } } := I4.kept (t' := s4.toks) fun b ob q => Heap.get?_push_of_some _ q
  obtain ⟨its, r, ht, hz⟩ := I5.tuple hx
  have hlen : its.toArray.size = xs.length := by rw [List.size_toArray]; exact r.length.symm
  show wpAny (model X.prog X.w) X.A (subscriptTail e (.Slice lo none (some (.Constant (.int i) k p1)) p3) (.ref a) (.ref s4.heap.objs.size)) (EP X pins σ Q) X.xe { s4 with heap := s4.heap.push { cls := .type "slice", data := .fields #[vl, .none, vs] } }
  refine tail_any (ops := [.ref a, .ref s4.heap.objs.size]) ht.typeIs PyProof.Rows.slot_tuple_getitem.lookup (getItem_step ht (Heap.IsSliceOf.new _ vl .none vs) pl ps h0 h1 (by rw [hlen]; exact hn) ?_) (by with_unfolding_all rfl)
  rw [hlen]
  refine ⟨.ref _, _, I5.laid (t' := s4.toks) (o := .tup (stepL xs (stepP xs.length l i) i)) (fun b ob q => Heap.get?_push_of_some _ q) (Nat.le_refl _) ⟨Nat.le_of_lt (small1000 (Nat.le_trans (stepL_len _ _ _) hn)), _, vals_stepL r _ _, IsTup.new _ _⟩, rfl, q _ (I5.hok.fresh (Nat.le_refl _))⟩⟩
end
end Lf

set_option maxHeartbeats 4000000
namespace Lf
open PySem PySem.Spec PyProof.Rows L2

/-! ## zip of two tuples, its pairs held -/
section
variable {pr : Program} {w : World} {A : Around} {E : Value → Shared → Prop} {s : Shared} {z TI TO T i1 i2 a b : Addr} {f : Bool} {oT : Obj} {k1 k2 : Nat} {xs ys : Array Value} {x y : Value}
theorem zipH_next {Q : Value → Shared → Prop} (D : ZipApart z TI TO i1 i2 a b) (hz : IsZipHeld s.heap z TI TO T f) (hT : s.heap.get? T = some oT) (hI : IsPair s.heap TI (.ref i1) (.ref i2)) (h1 : s.heap.IsTupleIter i1 a k1) (h2 : s.heap.IsTupleIter i2 b k2) (ha : s.heap.IsTuple a xs) (hb : s.heap.IsTuple b ys) (hx : xs[k1]? = some x) (hy : ys[k2]? = some y)
    (hQ : ∀ h', IsZipHeld h' z TI TO T true → h'.IsTupleIter i1 a (k1 + 1) → h'.IsTupleIter i2 b (k2 + 1) → IsPair h' s.heap.objs.size x y → h'.objs.size = s.heap.objs.size + 1 → (∀ c o, c ≠ z → c ≠ i1 → c ≠ i2 → s.heap.get? c = some o → h'.get? c = some o) → Q (.ref s.heap.objs.size) { s with heap := h' }) :
    wpAny (model pr w) A (Builtin.«zip.__next__» ⟨[.ref z], []⟩) (fun fin s' => ∃ v, fin = .done (.ret v) ∧ Q v s') E s := by
  refine (show wpAny _ _ (field (.ref z) 2 >>= _) _ _ _ from wpAny_bind (wpAny_field hz rfl (x := .bool false) rfl (show wpAny _ _ (field (.ref z) 3 >>= _) _ _ _ from wpAny_bind (wpAny_field hz rfl (x := .ref TI) rfl (wpAny_bind (wpAny_seqItems hI rfl ?_))))))
  refine (show wpAny _ _ (Builtin.SmallTypes.ownedTupleIsFree (.ref z) >>= _) _ _ _ from wpAny_bind (wpAny_tupleHeld_zip hz hT fun g1 z1 b1 => ?_))
  simp only [Bool.false_eq_true, if_false]
  refine wpAny_bind ?_
  rw [← Array.forIn_toList]
  simp only [List.forIn_cons, List.forIn_nil]
  refine wpAny_bind (wpAny_bind (wpAny_holding (show wpAny _ _ (Builtin.SmallTypes.nextOf (.ref i1) >>= _) _ _ _ from ?_)))
  refine wpAny_bind (RZ.nextOf_tuple_item (s := { s with heap := g1 }) (h1.extBut b1.extBut D.i1z) (ha.extBut b1.extBut D.l1z) hx fun g2 t2 b2 => wpAny_pure (wpAny_pure ?_))
  refine wpAny_bind (wpAny_bind (wpAny_holding (show wpAny _ _ (Builtin.SmallTypes.nextOf (.ref i2) >>= _) _ _ _ from ?_)))
  refine wpAny_bind (RZ.nextOf_tuple_item (s := { s with heap := g2 }) ((h2.extBut b1.extBut D.i2z).extBut b2.extBut D.i12.symm) ((hb.extBut b1.extBut D.l2z).extBut b2.extBut D.l2i1) hy fun g3 t3 b3 => wpAny_pure (wpAny_pure (wpAny_pure ?_)))
  refine (show wpAny _ _ (newTuple [x, y] >>= _) _ _ _ from wpAny_bind (wpAny_newTuple ?_))
  have hs : g3.objs.size = s.heap.objs.size := by rw [b3.1, b2.1, b1.1]
  have z3 : IsZipHeld g3 z TI TO T true := b3.extBut _ _ D.i2z.symm (b2.extBut _ _ D.i1z.symm z1)
  have hp : IsPair (g3.push { cls := .type "tuple", data := .seq #[x, y] }) g3.objs.size x y := Heap.get?_push_size _ rfl
  have hz4 : (g3.push { cls := .type "tuple", data := .seq #[x, y] }).objs.size = g3.objs.size + 1 := Heap.size_push ..
  refine wpAny_pure ⟨_, rfl, (show Q (.ref g3.objs.size) _ from ?_)⟩
  rw [hs] at hp hz4 ⊢
  exact hQ _ (Heap.get?_push_of_some _ z3) ((t2.extBut b3.extBut D.i12).at fun o e => Heap.get?_push_of_some _ e) (t3.at fun o e => Heap.get?_push_of_some _ e) hp hz4 fun c o c1 c2 c3 e => Heap.get?_push_of_some _ (b3.extBut _ _ c3 (b2.extBut _ _ c2 (b1.extBut _ _ c1 e)))
theorem zipH_end {Q : Fin → Shared → Prop} (hh : A.handled = none) (D : ZipApart z TI TO i1 i2 a b) (hz : IsZipHeld s.heap z TI TO T f) (hT : s.heap.get? T = some oT) (hI : IsPair s.heap TI (.ref i1) (.ref i2)) (h1 : s.heap.IsTupleIter i1 a k1) (h2 : s.heap.IsTupleIter i2 b k2) (ha : s.heap.IsTuple a xs) (hb : s.heap.IsTuple b ys) (hend : xs[k1]? = none ∨ ys[k2]? = none)
    (hE : ∀ h' e, (∀ c o, c ≠ z → c ≠ i1 → c ≠ i2 → s.heap.get? c = some o → h'.get? c = some o) → (∃ o, h'.get? e = some o ∧ o.cls = .type "StopIteration") → E (.ref e) { s with heap := h' }) :
    wpAny (model pr w) A (Builtin.«zip.__next__» ⟨[.ref z], []⟩) Q E s := by
  refine (show wpAny _ _ (field (.ref z) 2 >>= _) _ _ _ from wpAny_bind (wpAny_field hz rfl (x := .bool false) rfl (show wpAny _ _ (field (.ref z) 3 >>= _) _ _ _ from wpAny_bind (wpAny_field hz rfl (x := .ref TI) rfl (wpAny_bind (wpAny_seqItems hI rfl ?_))))))
  refine (show wpAny _ _ (Builtin.SmallTypes.ownedTupleIsFree (.ref z) >>= _) _ _ _ from wpAny_bind (wpAny_tupleHeld_zip hz hT fun g1 z1 b1 => ?_))
  simp only [Bool.false_eq_true, if_false]
  refine wpAny_bind ?_
  rw [← Array.forIn_toList]
  simp only [List.forIn_cons, List.forIn_nil]
  refine wpAny_bind (wpAny_bind (wpAny_holding (show wpAny _ _ (Builtin.SmallTypes.nextOf (.ref i1) >>= _) _ _ _ from ?_)))
  cases hx : xs[k1]? with
  | none =>
    refine wpAny_bind (RZ.nextOf_tuple_end (s := { s with heap := g1 }) hh (h1.extBut b1.extBut D.i1z) (ha.extBut b1.extBut D.l1z) hx fun g2 e b2 he => ?_)
    exact hE g2 e (fun c o c1 c2 _ q => b2 _ _ c2 (b1.extBut _ _ c1 q)) he
  | some x =>
    have hy : ys[k2]? = none := hend.resolve_left fun q => by rw [hx] at q; cases q
    refine wpAny_bind (RZ.nextOf_tuple_item (s := { s with heap := g1 }) (h1.extBut b1.extBut D.i1z) (ha.extBut b1.extBut D.l1z) hx fun g2 t2 b2 => wpAny_pure (wpAny_pure ?_))
    refine wpAny_bind (wpAny_bind (wpAny_holding (show wpAny _ _ (Builtin.SmallTypes.nextOf (.ref i2) >>= _) _ _ _ from ?_)))
    refine wpAny_bind (RZ.nextOf_tuple_end (s := { s with heap := g2 }) hh ((h2.extBut b1.extBut D.i2z).extBut b2.extBut D.i12.symm) ((hb.extBut b1.extBut D.l2z).extBut b2.extBut D.l2i1) hy fun g3 e b3 he => ?_)
    exact hE g3 e (fun c o c1 c2 c3 q => b3 _ _ c3 (b2.extBut _ _ c2 (b1.extBut _ _ c1 q))) he
/-- the zip behind k pairs, S the list they go to -/
structure ZSt (h : Heap) (z TI TO i1 i2 a b S : Addr) (k : Nat) : Prop where
  pair : IsPair h TI (.ref i1) (.ref i2)
  it1 : h.IsTupleIter i1 a k
  it2 : h.IsTupleIter i2 b k
  own : (IsZip h z TI TO .none ∧ ∃ x y, IsPair h TO x y) ∨ ∃ T f oT, IsZipHeld h z TI TO T f ∧ h.get? T = some oT ∧ T ≠ z ∧ T ≠ i1 ∧ T ≠ i2 ∧ T ≠ S
theorem ZSt.lt {h : Heap} {S : Addr} {k : Nat} (g : ZSt h z TI TO i1 i2 a b S k) : z < h.objs.size ∧ i1 < h.objs.size ∧ i2 < h.objs.size := by
  refine ⟨?_, let ⟨_, e, _⟩ := g.it1; Heap.lt_size e, let ⟨_, e, _⟩ := g.it2; Heap.lt_size e⟩
  rcases g.own with ⟨h1, _⟩ | ⟨T, f, o, h1, _⟩
  · exact Heap.lt_size h1
  · exact Heap.lt_size h1
theorem ZSt.ty {S : Addr} {k : Nat} (g : ZSt s.heap z TI TO i1 i2 a b S k) : s.TypeIs (.ref z) "zip" := by
  rcases g.own with ⟨h1, _⟩ | ⟨T, f, o, h1, _⟩
  · exact ⟨_, h1, rfl⟩
  · exact ⟨_, h1, rfl⟩
theorem ZSt.item {S : Addr} {k : Nat} {Q : Option Value → Shared → Prop} (g : ZSt s.heap z TI TO i1 i2 a b S k) (D : ZipApart z TI TO i1 i2 a b) (hSl : S < s.heap.objs.size) (ha : s.heap.IsTuple a xs) (hb : s.heap.IsTuple b ys) (hx : xs[k]? = some x) (hy : ys[k]? = some y)
    (hQ : ∀ h', ZSt h' z TI TO i1 i2 a b S (k + 1) → IsPair h' s.heap.objs.size x y → h'.objs.size = s.heap.objs.size + 1 → (∀ c o, c ≠ z → c ≠ TO → c ≠ i1 → c ≠ i2 → s.heap.get? c = some o → h'.get? c = some o) → Q (some (.ref s.heap.objs.size)) { s with heap := h' }) :
    wpAny (model pr w) A (pyNext (.ref z)) Q E s := by
  obtain ⟨l1, l2, l3⟩ := g.lt
  rcases g.own with ⟨hz, x0, y0, hO⟩ | ⟨T, f, oT, hz, hT, n1, n2, n3, n4⟩
  · refine RZ.pyNext_zipT_item D hz g.pair hO g.it1 g.it2 ha hb hx hy fun h' q1 q2 q3 q4 q5 q6 q7 => hQ h' ⟨q7 _ _ D.TIz D.TITO D.TIi1 D.TIi2 g.pair, q3, q4, .inr ⟨s.heap.objs.size, false, _, q1, q5, Nat.ne_of_gt l1, Nat.ne_of_gt l2, Nat.ne_of_gt l3, Nat.ne_of_gt hSl⟩⟩ q5 q6 q7
  · have hTy := g.ty
    unfold pyNext
    refine wpAny_bind (wpAny_attempt (wpAny_callSpecial?_slot (name := Str.ofString "__next__") hTy F.slot_zip_next (wpAny_call_entry F.slot_zip_next hTy F.entry_zip_next
      (zipH_next D hz hT g.pair g.it1 g.it2 ha hb hx hy fun h' q1 q3 q4 q5 q6 q7 => wpAny_pure (hQ h' ⟨q7 _ _ D.TIz D.TIi1 D.TIi2 g.pair, q3, q4, .inr ⟨T, true, _, q1, q7 _ _ n1 n2 n3 hT, n1, n2, n3, n4⟩⟩ q5 q6 fun c o c1 _ c3 c4 e => q7 c o c1 c3 c4 e)) (F.args_zip_next_1 _))))
theorem ZSt.done {S : Addr} {k : Nat} {Q : Option Value → Shared → Prop} (hh : A.handled = none) (g : ZSt s.heap z TI TO i1 i2 a b S k) (D : ZipApart z TI TO i1 i2 a b) (ha : s.heap.IsTuple a xs) (hb : s.heap.IsTuple b ys) (hend : xs[k]? = none ∨ ys[k]? = none)
    (hQ : ∀ h', (∀ c o, c ≠ z → c ≠ TO → c ≠ i1 → c ≠ i2 → s.heap.get? c = some o → h'.get? c = some o) → Q none { s with heap := h' }) : wpAny (model pr w) A (pyNext (.ref z)) Q E s := by
  rcases g.own with ⟨hz, x0, y0, hO⟩ | ⟨T, f, oT, hz, hT, n1, n2, n3, n4⟩
  · exact RZ.pyNext_zipT_end hh D hz g.pair hO g.it1 g.it2 ha hb hend hQ
  · have hTy := g.ty
    unfold pyNext
    refine wpAny_bind (wpAny_attempt (wpAny_callSpecial?_slot (name := Str.ofString "__next__") hTy F.slot_zip_next (wpAny_call_entry F.slot_zip_next hTy F.entry_zip_next
      (zipH_end hh D hz hT g.pair g.it1 g.it2 ha hb hend fun h' e hk ⟨o, ho, hc⟩ => ?_) (F.args_zip_next_1 _))))
    exact wpAny_bind (wpAny_isInstance (T := "StopIteration") (b := true) ⟨o, ho, hc⟩ isSubtype_stop (wpAny_pure (hQ _ fun c o c1 _ c3 c4 e => hk c o c1 c3 c4 e)))
end
end Lf

namespace Lf
open PySem
/-! ## marks: the finest that makes all pairs alike -/
structure Fine (ps : List (Str × Str)) (m : Str → Str) : Prop where
  eq : ∀ p ∈ ps, m p.1 = m p.2
  fin : ∀ f : Str → Bool, (∀ p ∈ ps, f p.1 = f p.2) → ∀ i j, m i = m j → f i = f j
theorem Fine.start : Fine [] fun i => i := ⟨(fun p h => by cases h), (fun f _ i j e => by rw [show i = j from e])⟩
theorem Fine.keep {ps : List (Str × Str)} {m : Str → Str} {p : Str × Str} (h : Fine ps m) (e : m p.1 = m p.2) : Fine (ps ++ [p]) m := by
  refine ⟨fun q hq => ?_, fun f hf => h.fin f fun q hq => hf q (List.mem_append_left _ hq)⟩
  rcases List.mem_append.mp hq with hq | hq
  · exact h.eq q hq
  · rw [List.mem_singleton.mp hq]
    exact e
def melt (m : Str → Str) (lo hi : Str) : Str → Str := fun i => if m i = hi then lo else m i
theorem Fine.melt {ps : List (Str × Str)} {m : Str → Str} {p : Str × Str} {lo hi : Str} (h : Fine ps m) (e : (lo = m p.1 ∧ hi = m p.2) ∨ (lo = m p.2 ∧ hi = m p.1)) : Fine (ps ++ [p]) (melt m lo hi) := by
  have at' : ∀ i, Lf.melt m lo hi i = if m i = hi then lo else m i := fun _ => rfl
  refine ⟨fun q hq => ?_, fun f hf i j hij => ?_⟩
  · rcases List.mem_append.mp hq with hq | hq
    · rw [at', at', h.eq q hq]
    · rw [List.mem_singleton.mp hq, at', at']
      rcases e with ⟨e1, e2⟩ | ⟨e1, e2⟩
      · rw [← e2, ← e1, if_pos rfl]
        split <;> rfl
      · rw [← e2, ← e1, if_pos rfl]
        split <;> rfl
  · have h1 := h.fin f fun q hq => hf q (List.mem_append_left _ hq)
    have hp := hf p (List.mem_append_right _ (List.mem_singleton.mpr rfl))
    have to : ∀ i, m i = hi → ∀ j, m j = lo → f i = f j := fun i ei j ej => by
      rcases e with ⟨e1, e2⟩ | ⟨e1, e2⟩
      · exact (h1 i p.2 (ei.trans e2)).trans (hp.symm.trans (h1 p.1 j (e1.symm.trans ej.symm)))
      · exact (h1 i p.1 (ei.trans e2)).trans (hp.trans (h1 p.2 j (e1.symm.trans ej.symm)))
    rw [at', at'] at hij
    by_cases ci : m i = hi
    · rw [if_pos ci] at hij
      by_cases cj : m j = hi
      · exact h1 i j (ci.trans cj.symm)
      · rw [if_neg cj] at hij
        exact to i ci j hij.symm
    · rw [if_neg ci] at hij
      by_cases cj : m j = hi
      · rw [if_pos cj] at hij
        exact (to j cj i hij).symm
      · rw [if_neg cj] at hij
        exact h1 i j hij
/-! ## going from island to island -/
def stepR (f : List Str) (p : Str × Str) : List Str := if p.1 ∈ f ∧ p.2 ∉ f then f ++ [p.2] else f
def pairR (f : List Str) (p : Str × Str) : List Str := stepR (stepR f p) (p.2, p.1)
def lapR (ps : List (Str × Str)) (f : List Str) : List Str := ps.foldl pairR f
def goR (ps : List (Str × Str)) (i : Str) : Nat → List Str
  | 0 => [i]
  | n + 1 => lapR ps (goR ps i n)
def reachS (is : List Str) (ps : List (Str × Str)) (i : Str) : List Str := goR ps i is.length
theorem stepR_pre (f : List Str) (p : Str × Str) : f <+: stepR f p := by
  unfold stepR
  split
  · exact ⟨[p.2], rfl⟩
  · exact List.prefix_refl f
theorem pairR_pre (f : List Str) (p : Str × Str) : f <+: pairR f p := (stepR_pre f p).trans (stepR_pre _ _)
theorem lapR_pre : ∀ (ps : List (Str × Str)) (f : List Str), f <+: lapR ps f
  | [], f => List.prefix_refl f
  | p :: ps, f => (pairR_pre f p).trans (lapR_pre ps (pairR f p))
theorem pre_same {f g : List Str} (h : f <+: g) (h' : g <+: f) : g = f := h'.eq_of_length (Nat.le_antisymm h'.length_le h.length_le)
theorem step_fix {f : List Str} {p : Str × Str} (h : stepR f p = f) : p.1 ∈ f → p.2 ∈ f := fun h1 => by
  refine Classical.byContradiction fun h2 => ?_
  unfold stepR at h
  rw [if_pos ⟨h1, h2⟩] at h
  have := congrArg List.length h
  simp at this
theorem lap_fix : ∀ {ps : List (Str × Str)} {f : List Str}, lapR ps f = f → ∀ p ∈ ps, (p.1 ∈ f ↔ p.2 ∈ f)
  | [], _, _, p, hp => by cases hp
  | q :: ps, f, h, p, hp => by
    have h0 : lapR ps (pairR f q) = f := h
    have e1 : pairR f q = f := pre_same (pairR_pre f q) (by
      have := lapR_pre ps (pairR f q)
      rw [h0] at this
      exact this)
    have e2 : stepR f q = f := pre_same (stepR_pre f q) (by
      have : stepR f q <+: pairR f q := stepR_pre _ _
      rw [e1] at this
      exact this)
    have e3 : stepR f (q.2, q.1) = f := by
      have : stepR (stepR f q) (q.2, q.1) = f := e1
      rw [e2] at this
      exact this
    rcases List.mem_cons.mp hp with rfl | hp
    · exact ⟨step_fix e2, step_fix e3⟩
    · rw [e1] at h0
      exact lap_fix h0 p hp
theorem stepR_inv {P : Str → Prop} {f : List Str} {p : Str × Str} (h : ∀ x ∈ f, P x) (k : P p.1 → P p.2) : ∀ x ∈ stepR f p, P x := fun x hx => by
  unfold stepR at hx
  split at hx
  · rename_i c
    rcases List.mem_append.mp hx with hx | hx
    · exact h x hx
    · rw [List.mem_singleton.mp hx]
      exact k (h _ c.1)
  · exact h x hx
theorem lapR_inv {P : Str → Prop} : ∀ {ps : List (Str × Str)} {f : List Str}, (∀ x ∈ f, P x) → (∀ p ∈ ps, P p.1 ↔ P p.2) → ∀ x ∈ lapR ps f, P x
  | [], f, h, _ => h
  | p :: ps, f, h, k => lapR_inv (ps := ps) (stepR_inv (stepR_inv h (k p List.mem_cons_self).mp) (k p List.mem_cons_self).mpr) fun q hq => k q (List.mem_cons_of_mem _ hq)
theorem goR_inv {P : Str → Prop} {ps : List (Str × Str)} {i : Str} (h : P i) (k : ∀ p ∈ ps, P p.1 ↔ P p.2) : ∀ n, ∀ x ∈ goR ps i n, P x
  | 0 => fun x hx => by rw [List.mem_singleton.mp hx]; exact h
  | n + 1 => lapR_inv (goR_inv h k n) k
theorem stepR_nd {f : List Str} {p : Str × Str} (h : f.Nodup) : (stepR f p).Nodup := by
  unfold stepR
  split
  · rename_i c
    rw [List.nodup_append]
    refine ⟨h, by simp, fun a ha b hb e => ?_⟩
    rw [List.mem_singleton.mp hb] at e
    exact c.2 (e ▸ ha)
  · exact h
theorem lapR_nd : ∀ {ps : List (Str × Str)} {f : List Str}, f.Nodup → (lapR ps f).Nodup
  | [], _, h => h
  | p :: ps, f, h => lapR_nd (ps := ps) (stepR_nd (stepR_nd h))
theorem goR_nd {ps : List (Str × Str)} {i : Str} : ∀ n, (goR ps i n).Nodup
  | 0 => by simp [goR]
  | n + 1 => lapR_nd (goR_nd n)
theorem goR_self {ps : List (Str × Str)} {i : Str} : ∀ n, i ∈ goR ps i n
  | 0 => List.mem_singleton.mpr rfl
  | n + 1 => (lapR_pre ps _).subset (goR_self n)
theorem goR_long {ps : List (Str × Str)} {i : Str} : ∀ n, lapR ps (goR ps i n) = goR ps i n ∨ n + 1 ≤ (goR ps i n).length
  | 0 => .inr (by simp [goR])
  | n + 1 => by
    have hp := lapR_pre ps (goR ps i n)
    rcases goR_long (ps := ps) (i := i) n with h | h
    · refine .inl ?_
      show lapR ps (lapR ps (goR ps i n)) = lapR ps (goR ps i n)
      rw [h, h]
    · by_cases e : (lapR ps (goR ps i n)).length = (goR ps i n).length
      · have e2 : lapR ps (goR ps i n) = goR ps i n := (hp.eq_of_length e.symm).symm
        refine .inl ?_
        show lapR ps (lapR ps (goR ps i n)) = lapR ps (goR ps i n)
        rw [e2, e2]
      · refine .inr ?_
        have := hp.length_le
        show n + 1 + 1 ≤ (lapR ps (goR ps i n)).length
        omega
theorem nodup_sub {l m : List Str} (h : l.Nodup) (k : ∀ x ∈ l, x ∈ m) : l.length ≤ m.length := h.length_le_of_subset k
theorem reach_iff {is : List Str} {ps : List (Str × Str)} {m : Str → Str} (hF : Fine ps m) (hin : ∀ p ∈ ps, p.1 ∈ is ∧ p.2 ∈ is) {i : Str} (hi : i ∈ is) (j : Str) : j ∈ reachS is ps i ↔ m j = m i := by
  have k1 := goR_inv (P := fun x => m x = m i) (ps := ps) (i := i) rfl (fun p hp => by rw [hF.eq p hp]) is.length
  refine ⟨k1 j, fun h => ?_⟩
  have closed : ∀ p ∈ ps, (p.1 ∈ reachS is ps i ↔ p.2 ∈ reachS is ps i) := by
    rcases goR_long (ps := ps) (i := i) is.length with h | h
    · exact lap_fix h
    · have := nodup_sub (goR_nd (ps := ps) (i := i) is.length) (goR_inv (P := fun x => x ∈ is) hi (fun p hp => iff_of_true (hin p hp).1 (hin p hp).2) is.length)
      omega
  have z := hF.fin (fun x => decide (x ∈ reachS is ps i)) (fun p hp => decide_eq_decide.mpr (closed p hp)) j i h
  have : decide (i ∈ reachS is ps i) = true := decide_eq_true (goR_self _)
  rw [this] at z
  exact of_decide_eq_true z
/-! ## the lots -/
def lotS (is : List Str) (m : Str → Str) (i : Str) : List Str := is.filter fun j => m j = m i
theorem lotS_self {is : List Str} {m : Str → Str} {i : Str} (h : i ∈ is) : i ∈ lotS is m i := List.mem_filter.mpr ⟨h, by simp⟩
theorem lotS_mem {is : List Str} {m : Str → Str} {i j : Str} : j ∈ lotS is m i ↔ j ∈ is ∧ m j = m i := by
  unfold lotS
  rw [List.mem_filter]
  simp
theorem lotS_same {is : List Str} {m : Str → Str} {i j : Str} (h : m i = m j) : lotS is m i = lotS is m j := by
  unfold lotS
  rw [h]
/-- lots that are just those of the marks -/
structure LotsOf (is : List Str) (m : Str → Str) (ls : List (List Str)) : Prop where
  nd : ls.Nodup
  mem : ∀ l, l ∈ ls ↔ ∃ i ∈ is, l = lotS is m i
def headS : List Str → Str | [] => Str.ofString "" | x :: _ => x
def markS (ls : List (List Str)) (i : Str) : Str := match ls.find? fun l => decide (i ∈ l) with | some l => headS l | none => i
theorem head_mem {l : List Str} (h : l ≠ []) : headS l ∈ l := by
  cases l with
  | nil => exact absurd rfl h
  | cons x _ => exact List.mem_cons_self
section
variable {is : List Str} {m : Str → Str} {ls : List (List Str)}
theorem LotsOf.lot (g : LotsOf is m ls) {l : List Str} (h : l ∈ ls) {x : Str} (hx : x ∈ l) : x ∈ is ∧ l = lotS is m x := by
  obtain ⟨i, hi, rfl⟩ := (g.mem l).mp h
  obtain ⟨h1, h2⟩ := lotS_mem.mp hx
  exact ⟨h1, lotS_same h2.symm⟩
theorem LotsOf.flat_nd (g : LotsOf is m ls) (hn : is.Nodup) : ls.flatten.Nodup := by
  refine List.pairwise_flatten.mpr ⟨fun l hl => ?_, ?_⟩
  · obtain ⟨i, hi, rfl⟩ := (g.mem l).mp hl
    exact hn.sublist List.filter_sublist
  · refine List.Pairwise.imp_of_mem (fun {a b} ha hb hne x hxa y hxb e => ?_) g.nd
    exact hne ((g.lot ha hxa).2.trans (g.lot hb (e ▸ hxb)).2.symm)
theorem LotsOf.flat (g : LotsOf is m ls) (hn : is.Nodup) : ls.flatten.Perm is := by
  refine (List.perm_ext_iff_of_nodup (g.flat_nd hn) hn).mpr fun x => ?_
  rw [List.mem_flatten]
  constructor
  · rintro ⟨l, hl, hx⟩
    exact (g.lot hl hx).1
  · intro hx
    exact ⟨_, (g.mem _).mpr ⟨x, hx, rfl⟩, lotS_self hx⟩
theorem LotsOf.mark (g : LotsOf is m ls) {i : Str} (hi : i ∈ is) : markS ls i = headS (lotS is m i) := by
  unfold markS
  have h : (ls.find? fun l => decide (i ∈ l)).isSome = true := by
    rw [List.find?_isSome]
    exact ⟨_, (g.mem _).mpr ⟨i, hi, rfl⟩, decide_eq_true (lotS_self hi)⟩
  obtain ⟨l, e⟩ := Option.isSome_iff_exists.mp h
  rw [e]
  have h1 := List.mem_of_find?_eq_some e
  have h2 := List.find?_some e
  rw [(g.lot h1 (of_decide_eq_true h2)).2]
theorem LotsOf.marks (g : LotsOf is m ls) {i j : Str} (hi : i ∈ is) (hj : j ∈ is) : markS ls i = markS ls j ↔ m i = m j := by
  rw [g.mark hi, g.mark hj]
  constructor
  · intro e
    have h1 := (lotS_mem.mp (head_mem (l := lotS is m i) fun z => by have := lotS_self (m := m) hi; rw [z] at this; cases this)).2
    have h2 := (lotS_mem.mp (head_mem (l := lotS is m j) fun z => by have := lotS_self (m := m) hj; rw [z] at this; cases this)).2
    rw [← h1, ← h2, e]
  · intro e
    rw [lotS_same e]
theorem LotsOf.joins (g : LotsOf is m ls) {i j : Str} (hi : i ∈ is) (hj : j ∈ is) : (∃ l ∈ ls, i ∈ l ∧ j ∈ l) ↔ m i = m j := by
  constructor
  · rintro ⟨l, hl, h1, h2⟩
    rw [(g.lot hl h1).2] at h2
    exact (lotS_mem.mp h2).2.symm
  · intro e
    refine ⟨_, (g.mem _).mpr ⟨i, hi, rfl⟩, lotS_self hi, ?_⟩
    rw [lotS_same e]
    exact lotS_self hj
end
/-! ## pairs of islands that ascend -/
def twosL : List Str → List (Str × Str)
  | [] => []
  | t :: ts => ts.map (fun u => (t, u)) ++ twosL ts
def overL (lt : Str → Str → Bool) (is : List Str) (q : Str × Str → Bool) : List (Str × Str) := is.flatMap fun a => (is.filter fun b => lt a b && q (a, b)).map fun b => (a, b)
theorem twosL_mem {lt : Str → Str → Bool} : ∀ {is : List Str}, is.Pairwise (fun a b => lt a b = true) → ∀ p ∈ twosL is, p.1 ∈ is ∧ p.2 ∈ is ∧ lt p.1 p.2 = true
  | [], _, p, hp => by cases hp
  | t :: ts, h, p, hp => by
    obtain ⟨h1, h2⟩ := List.pairwise_cons.mp h
    rcases List.mem_append.mp hp with hp | hp
    · obtain ⟨u, hu, rfl⟩ := List.mem_map.mp hp
      exact ⟨List.mem_cons_self, List.mem_cons_of_mem _ hu, h1 u hu⟩
    · obtain ⟨a, b, c⟩ := twosL_mem h2 p hp
      exact ⟨List.mem_cons_of_mem _ a, List.mem_cons_of_mem _ b, c⟩
theorem overL_twos {lt : Str → Str → Bool} (ir : ∀ x, lt x x = false) (as : ∀ x y, lt x y = true → lt y x = false) (q : Str × Str → Bool) : ∀ {is : List Str}, is.Pairwise (fun a b => lt a b = true) → overL lt is q = (twosL is).filter q
  | [], _ => rfl
  | t :: ts, h => by
    obtain ⟨h1, h2⟩ := List.pairwise_cons.mp h
    have ih := overL_twos ir as q h2
    unfold overL at ih ⊢
    rw [List.flatMap_cons, twosL, List.filter_append, ← ih]
    congr 1
    · rw [List.filter_cons, if_neg (by simp [ir]), List.filter_map]
      congr 1
      refine List.filter_congr fun u hu => ?_
      simp [h1 u hu]
    · rw [List.flatMap_def, List.flatMap_def]
      congr 1
      refine List.map_congr_left fun a ha => ?_
      rw [List.filter_cons, if_neg (by simp [as t a (h1 a ha)])]
end Lf

set_option maxHeartbeats 4000000
namespace Lf
open PySem PySem.Spec PyProof.Rows L2

/-! ## the text by places -/
def topS (i : Nat) : Stmt := PySem.Challenge.pw_lastfords_k17_pairs_and_lots.main.body.getD i (.Pass ⟨0, 0, 0, 0⟩)
/-- built-in names that the program leaves alone -/
structure Bts (mg : Str → Option Value) : Prop where
  len : mg "len" = none
  isi : mg "isinstance" = none
  tuple : mg "tuple" = none
  list : mg "list" = none
  str : mg "str" = none
  bool : mg "bool" = none
  int : mg "int" = none
  all : mg "all" = none
  zip : mg "zip" = none
  range : mg "range" = none
  sorted : mg "sorted" = none
  abs : mg "abs" = none
  min : mg "min" = none
  set : mg "set" = none
  enum : mg "enumerate" = none
/-- a def of the text with its promise, as a caller sees it -/
structure Has (P : Program) (w : World) (K : PySem.W.Frag) (mg : Str → Option Value) (base : Heap) (k : Nat) (x : Str) (ps : List Str) (sp : Sp) : Prop where
  ex : ∃ (f : Addr) (fd : FuncData), FnOk P w K mg base CX0 k f fd ps sp ∧ mg x = some (.ref f) ∧ PySem.W.keepIn K (.ref f) = true ∧ Binds K fd ps []
section
variable {X : Cx} {k : Nat} {x : Str} {ps : List Str} {sp : Sp} {e : Expr} {es : List Expr} {t : TA} {p pos : Pos}
theorem pe_has (G : Has X.prog X.w X.K X.mg X.base k x ps sp) (hr : Room k X.A) (ha : PA X (e :: es) t) (hg : Gl X x := by rfl) (hdb : (x == ("__debug__" : Str)) = false := by decide)
    (he : starEach (e :: es) X.env = (false, eval e X.env) :: starEach es X.env := by rfl) (hpl : (backTo pos (starEach es X.env)).any (·.1) = false := by rfl) :
    PE X (.Call (.Name x p) (e :: es) [] pos) (tCall sp [] E0 t) := by
  obtain ⟨f, fd, ok, m, kp, b⟩ := G.ex
  exact pe_call ok hr hg m kp b .nil pass0 ha hdb he hpl
theorem pe_has0 (G : Has X.prog X.w X.K X.mg X.base k x [] sp) (hr : Room k X.A) (hg : Gl X x := by rfl) (hdb : (x == ("__debug__" : Str)) = false := by decide) : PE X (.Call (.Name x p) [] [] pos) (tCall sp [] E0 tNil) := by
  obtain ⟨f, fd, ok, m, kp, b⟩ := G.ex
  exact pe_call0 ok hr hg m kp b .nil pass0 hdb
end
theorem small {n : Nat} (h : n ≤ 1000) : n ≤ sizeLine := Nat.le_of_lt (small1000 h)
theorem yes {σ : L2.St} {H : Hp} {Q : Bool → Hp → Prop} (h : Q true H) : tYes σ H Q := h
theorem ddAll_strs {H : Hp} : ∀ l : List Str, DdAll H (l.map V.str) (l.map PyData.str)
  | [] => .nil
  | x :: l => .cons (.str x) (ddAll_strs l)
theorem dd_strs {H : Hp} : ∀ {l : List Str} {vs : List V}, DdAll H vs (l.map PyData.str) → vs = l.map V.str
  | [], _, h => by cases h; rfl
  | x :: l, _, h => by
    cases h with
    | cons h1 h2 =>
      cases h1
      rw [List.map_cons, dd_strs h2]
theorem kitAny2 {K : PySem.W.Frag} {t : Value} {a b : Bool} {c1 c2 : Value} (h1 : PySem.W.kitOne K t c1 = some a) (h2 : PySem.W.kitOne K t c2 = some b) : PySem.W.kitAny K t [c1, c2] = some (a || b) := by
  refine kitAny_cons h1 (fun ha => kitAny_cons h2 (fun hb => ?_) (fun hb => by rw [hb, Bool.or_true])) (fun ha => by rw [ha, Bool.true_or])
  rw [ha, hb]
  exact kitAny_nil
theorem callR_or {X : Cx} {f : Value} {r1 r2 : List V → Hp → VK → Prop} (h1 : CallR X f r1) (h2 : CallR X f r2) : CallR X f (fun xs H Q => r1 xs H Q ∨ r2 xs H Q) := by
  intro pins s σ H xs us Q I r h
  rcases h with h | h
  · exact h1 pins s σ H xs us Q I r h
  · exact h2 pins s σ H xs us Q I r h
theorem ixR_or {X : Cx} {r1 r2 : R2} (h1 : IxR X r1) (h2 : IxR X r2) : IxR X (fun x y H Q => r1 x y H Q ∨ r2 x y H Q) := by
  intro value slice pins s σ H x y v u Q I rx ry h hs
  rcases h with h | h
  · exact h1 value slice pins s σ H x y v u Q I rx ry h hs
  · exact h2 value slice pins s σ H x y v u Q I rx ry h hs
/-! ## data of a sequence, list or tuple -/
def SqD (H : Hp) (v : V) (xs : List V) : Prop := ∃ a, v = .ref a ∧ (H a = some (.lst xs) ∨ H a = some (.tup xs))
theorem SqD.mono {H H' : Hp} {v : V} {xs : List V} (h : SqD H v xs) (s : Same H H') : SqD H' v xs := by
  obtain ⟨a, e, h⟩ := h
  exact ⟨a, e, h.imp (s _ _) (s _ _)⟩
end Lf

set_option maxHeartbeats 4000000
namespace Lf
open PySem PySem.Spec PyProof.Rows L2
/-- what stands in the later heap alone -/
def newer (H H' : Hp) : Hp := fun b => match H b with | none => H' b | some _ => none
theorem newer_in {H H' : Hp} {b : Addr} {o : HO} (h : H b = none) (e : H' b = some o) : newer H H' b = some o := by
  unfold newer
  rw [h]
  exact e
theorem newer_at {H H' : Hp} {b : Addr} {o : HO} (e : newer H H' b = some o) : H b = none ∧ H' b = some o := by
  unfold newer at e
  cases h : H b with
  | none => rw [h] at e; exact ⟨rfl, e⟩
  | some _ => rw [h] at e; cases e
theorem newer_sub {H H' : Hp} : Same (newer H H') H' := fun b o e => (newer_at e).2
theorem none_of_same {H H' : Hp} {b : Addr} (s : Same H H') (h : H' b = none) : H b = none := by
  cases e : H b with
  | none => rfl
  | some o =>
    rw [s _ _ e] at h
    cases h
theorem newer_step {H H2 H3 : Hp} {D : Addr} {o : HO} (s : Same H H2) (hD : H2 D = some o) : Same (newer H2 H3) (hide D (newer H H3)) := fun b u e => by
  obtain ⟨h1, h2⟩ := newer_at e
  refine hide_in (fun z => ?_) (newer_in (none_of_same s h1) h2)
  subst z
  rw [hD] at h1
  cases h1
theorem newer_mono {H H2 H3 : Hp} {D : Addr} (s : Same H2 H3) : Same (hide D (newer H H2)) (hide D (newer H H3)) := hide_mono fun b u e => by
  obtain ⟨h1, h2⟩ := newer_at e
  exact newer_in h1 (s _ _ h2)
theorem newer_upd {H H2 : Hp} {D : Addr} {o : HO} : hide D (newer H (upd H2 D o)) = hide D (newer H H2) := by
  funext b
  unfold hide newer upd
  split
  · rfl
  · rfl
/-- [f(x) for x in xs], each answer new -/
theorem lc_new {J : It} {G : Hp → Prop} {xs : List V} {ds : List PyData} {te : TE} {vs : List Nat} {slot : Nat} {σ : L2.St} {H : Hp} {D : Addr} {Qd : Hp → Prop} (f : PyData → PyData)
    (w : Walk J xs.length G (YAt xs)) (hG : ∀ H2, Same H H2 → G H2) (h2 : DdAll H xs ds) (nD : H D = none) (hlen : ds.length ≤ 1000)
    (hwp : ∀ v, wipe ((wipe σ vs).set slot (some v)) vs = wipe σ vs)
    (hs : ∀ v d H2 (R : VK), d ∈ ds → Dd H2 v d → Same H H2 → (∀ y H3, Same H2 H3 → Dd (newer H2 H3) y (f d) → R y H3) → te ((wipe σ vs).set slot (some v)) H2 R)
    (hd : ∀ H2 ys, Same H H2 → H2 D = some (.lst ys) → DdAll (hide D (newer H H2)) ys (ds.map f) → Qd H2) :
    ∃ W : Nat → Nat → Hp → Prop, (∃ m, W 0 m (upd H D (.lst []))) ∧ ∀ i m H, W i m H →
      (J.stop i H ∧ Qd H) ∨ (J.go i H ∧ ∃ Nx : Hp → Prop, (∀ H', Nx H' → ∃ m', m' < m ∧ W (i + 1) m' H') ∧ ∀ x H', J.yld i H x H' → gName slot x (wipe σ vs) H' fun σ2 H2 => wipe σ2 vs = wipe σ vs ∧ tYes σ2 H2 fun b H3 =>
        if b = true then te σ2 H3 fun y H4 => ∃ acc, H4 D = some (.lst acc) ∧ acc.length < sizeLine ∧ Nx (upd H4 D (.lst (acc ++ [y]))) else Nx H3) := by
  have hl := h2.length
  refine lc_it w (fun i H2 => Same H H2 ∧ ∃ ys, H2 D = some (.lst ys) ∧ DdAll (hide D (newer H H2)) ys ((ds.map f).take i)) ⟨same_new nD _, [], upd_same, .nil⟩ (fun i H2 _ hP => hG H2 hP.1) (fun i x H2 H3 hi hP hY => ?_) (fun H2 hP => ?_)
  · obtain ⟨rfl, hx⟩ := hY
    obtain ⟨sm, ys, hD, hys⟩ := hP
    obtain ⟨d, g1, k1⟩ := h2.get hx
    refine ⟨hwp x, yes ?_⟩
    rw [if_pos rfl]
    refine hs x d _ _ (List.mem_of_getElem? g1) (k1.mono sm) sm fun y H4 s4 k4 => ?_
    have ly := hys.length
    rw [List.length_take, List.length_map] at ly
    refine ⟨ys, s4 _ _ hD, small1000 (by omega), same_upd (sm.trans s4) nD _, ys ++ [y], upd_same, ?_⟩
    have e : (ds.map f)[i]? = some (f d) := by rw [List.getElem?_map, g1] <;> rfl
    rw [List.take_add_one, e, Option.toList_some, newer_upd]
    exact (hys.mono (newer_mono s4)).append (.cons (k4.mono (newer_step sm hD)) .nil)
  · obtain ⟨sm, ys, hD, hys⟩ := hP
    rw [List.take_of_length_le (by rw [List.length_map]; omega)] at hys
    exact hd H2 ys sm hD hys
/-! ## frozen -/
mutual
def frzD : PyData → PyData
  | .list ds => .tuple (frzDs ds)
  | .tuple ds => .tuple (frzDs ds)
  | .none => .none
  | .bool b => .bool b
  | .int i => .int i
  | .str x => .str x
  | .dict kvs => .dict kvs
def frzDs : List PyData → List PyData
  | [] => []
  | d :: ds => frzD d :: frzDs ds
end
theorem frzDs_map : ∀ ds : List PyData, frzDs ds = ds.map frzD
  | [] => by rw [frzDs]; rfl
  | d :: ds => by rw [frzDs, frzDs_map ds]; rfl
def spFrozen (k : Nat) : Sp := fun vs H Q _ => ∃ v d n, vs = [v] ∧ Dd H v d ∧ wf n d = true ∧ n + 1 ≤ k ∧ ∀ y H', Same H H' → Dd (newer H H') y (frzD d) → Q y H'
section
variable {P : Program} {w : World} {K : PySem.W.Frag} {mg : Str → Option Value} {base : Heap} {f : Addr} {fd : FuncData}
theorem scFrozen : FnScope ["value", "part"] ["value"] (defScope (topS 1)) := ⟨rfl, rfl, rfl, by decide +kernel, rfl, by decide +kernel, by decide +kernel⟩
theorem ok_frozen {k : Nat} (B : Bts mg) (G : Has P w K mg base k "frozen" ["value"] (spFrozen k)) (F : Fun K "frozen" "frozen" (topS 1) f fd) : FnOk P w K mg base CX0 (k + 1) f fd ["value"] (spFrozen (k + 1)) := by
  refine F.ok scFrozen (fun vs H Q E h => ?_) (fun cdv A outer s H vs Q E hr h => ?_)
  · obtain ⟨v, d, n, rfl, _⟩ := h
    rfl
  obtain ⟨v, d, n, rfl, hd, hw, hn, q⟩ := h
  refine ⟨_, pss_cons (ps_if (pt_val (pe_callB call_isiT (by rfl) B.isi (by decide +kernel) (pa_cons (pv 0) (pa_cons (pe_tup (pa_cons (pe_bltn (v := .ty "list") (by rfl) B.list (by decide +kernel) rfl) (pa_cons (pe_bltn (v := .ty "tuple") (by rfl) B.tuple (by decide +kernel) rfl) pa_nil))) pa_nil))))
      (pss_one (ps_ret (pe_callTy call_tuple_of (by rfl) B.tuple (by decide +kernel) (pa_cons
        (pe_lc (own := [("part", 1)]) (g := gName 1) rfl scFrozen.nd (pi_seq (pv 0)) (blkOk_by (own := [("part", 1)]) (N := ["value", "part"]) (sc := defScope (topS 1)) (by decide +kernel))
          (fun _ _ _ _ _ => pg_name (i := 1) scFrozen.nd rfl (Or.inl rfl)) (fun _ _ _ _ _ => pts_nil) (fun _ _ _ _ _ => pe_has G hr (pa_cons (pv 1) pa_nil))) pa_nil))))
      pss_nil)
    (pss_one (ps_ret (pv 0))), ?_⟩
  refine ⟨_, rfl, (by show 2 ≤ sizeLine; decide), fun tp ntp => ?_⟩
  have s1 : Same H (upd H tp (.tup [.ty "list", .ty "tuple"])) := same_new ntp _
  refine ⟨_, tp, _, _, _, _, rfl, upd_same, .cons (.ty "list") (.cons (.ty "tuple") .nil), (hd.mono s1).ty, kitAny2 (kit_lst d) (kit_tup d), _, rfl, ?_⟩
  generalize upd H tp (.tup [.ty "list", .ty "tuple"]) = H1 at s1 ⊢
  have fin : ∀ {ds : List PyData} {H2 : Hp} {D : Addr} {ys : List V}, frzD d = .tuple (ds.map frzD) → Same H1 H2 → H2 D = some (.lst ys) → DdAll (hide D (newer H1 H2)) ys (ds.map frzD) → ∀ p, H2 p = none → Q (.ref p) (upd H2 p (.tup ys)) := by
    intro ds H2 D ys ef sm hD hys p np
    refine q _ _ (s1.trans (sm.trans (same_new np _))) ?_
    rw [ef]
    refine .tup (newer_in (none_of_same (s1.trans sm) np) upd_same) (hys.mono fun b o e => ?_)
    obtain ⟨h1, h2⟩ := newer_at (hide_sub _ _ e)
    exact newer_in (none_of_same s1 h1) ((same_new np _) _ _ h2)
  cases hd with
  | @lst a xs ds h1 h2 =>
    obtain ⟨m, rfl, hlen, hall⟩ := wf_list hw
    refine iteT ?_
    have ha := s1 _ _ h1
    refine ⟨_, rfl, a, rfl, .inl ⟨⟨xs, .of ha⟩, fun D nD => ?_⟩⟩
    refine lc_new frzD (walk_list (K := K) (a := a)) (fun H2 s2 => .of (s2 _ _ ha)) (h2.mono s1) nD hlen (fun v => rfl) (fun v d' H2 R hm hv s2 r => ?_) (fun H2 ys s2 hD hys => ?_)
    · exact ⟨_, rfl, v, d', m, rfl, hv, hall d' hm, by omega, r⟩
    · exact ⟨D, ys, rfl, .inl ⟨.of hD, fun p np => fin (by rw [frzD, frzDs_map]) s2 hD hys p np⟩⟩
  | @tup a xs ds h1 h2 =>
    obtain ⟨m, rfl, hlen, hall⟩ := wf_tuple hw
    refine iteT ?_
    have ha := s1 _ _ h1
    refine ⟨_, rfl, a, rfl, .inr ⟨⟨xs, .of ha⟩, fun D nD => ?_⟩⟩
    refine lc_new frzD (walk_tup (K := K) (a := a)) (fun H2 s2 => .of (s2 _ _ ha)) (h2.mono s1) nD hlen (fun v => rfl) (fun v d' H2 R hm hv s2 r => ?_) (fun H2 ys s2 hD hys => ?_)
    · exact ⟨_, rfl, v, d', m, rfl, hv, hall d' hm, by omega, r⟩
    · exact ⟨D, ys, rfl, .inl ⟨.of hD, fun p np => fin (by rw [frzD, frzDs_map]) s2 hD hys p np⟩⟩
  | non =>
    refine iteF ?_
    exact ⟨_, rfl, q _ _ s1 .non⟩
  | bl b =>
    refine iteF ?_
    exact ⟨_, rfl, q _ _ s1 (.bl b)⟩
  | int i =>
    refine iteF ?_
    exact ⟨_, rfl, q _ _ s1 (.int i)⟩
  | str x =>
    refine iteF ?_
    exact ⟨_, rfl, q _ _ s1 (.str x)⟩
theorem frozen_none : FnOk P w K mg base CX0 0 f fd ["value"] (spFrozen 0) := by
  have no : ∀ vs H Q E, ¬ spFrozen 0 vs H Q E := fun vs H Q E h => by
    obtain ⟨v, d, n, _, _, _, h1, _⟩ := h
    omega
  exact ⟨fun vs H Q E h => absurd h (no vs H Q E), fun A outer s H args us vs Q E _ _ _ _ h => absurd h (no vs H Q E)⟩
end
end Lf

set_option maxHeartbeats 4000000
namespace Lf
open PySem PySem.Spec PyProof.Rows L2
/-- the answer of ascending: each once, one after the other -/
structure AscTo (ds es : List PyData) : Prop where
  nd : es.Nodup
  mem : ∀ d, d ∈ es ↔ d ∈ ds
  up : es.Pairwise fun d e => PySem.W.dataLt e d = false
inductive AscIn (H : Hp) : List V → List PyData → Prop
  | txt (ss : List Str) : AscIn H (ss.map V.str) (ss.map PyData.str)
  | keys {vs : List V} {ds : List PyData} : DdAll H vs ds → (∀ d ∈ ds, KeyT d) → PySem.W.AllAlike ds → PySem.W.Sortable ds → AscIn H vs ds
def spAscending (K : PySem.W.Frag) : Sp := fun vs H Q _ => ∃ l xs ds, vs = [V.ref l] ∧ (SqL K H l xs ∨ SqT K H l xs) ∧ AscIn H xs ds ∧ ds.length < 64 ∧
  ∀ H' p ys es, Same H H' → AscTo ds es → DdAll H' ys es → (∀ y ∈ ys, y ∈ xs) → H' p = some (.tup ys) → H p = none → Q (.ref p) H'
section
variable {P : Program} {w : World} {K : PySem.W.Frag} {mg : Str → Option Value} {base : Heap} {f : Addr} {fd : FuncData}
theorem scAsc2 : FnScope ["values"] ["values"] (defScope (topS 2)) := ⟨rfl, rfl, rfl, by decide +kernel, rfl, by decide +kernel, by decide +kernel⟩
theorem ok_ascending (B : Bts mg) (F : Fun K "ascending" "ascending" (topS 2) f fd) : FnOk P w K mg base CX0 1 f fd ["values"] (spAscending K) := by
  refine F.ok scAsc2 (fun vs H Q E h => ?_) (fun cdv A outer s H vs Q E hr h => ?_)
  · obtain ⟨l, xs, ds, rfl, _⟩ := h
    rfl
  obtain ⟨l, xs, ds, rfl, hl, hi, hn, q⟩ := h
  refine ⟨_, pss_one (ps_ret (pe_callTy call_tuple_of (by rfl) B.tuple (by decide +kernel) (pa_cons (pe_callB (callR_or (cr_sortedSt rfl hr.units) (cr_sortedDS rfl hr.units)) (by rfl) B.sorted (by decide +kernel) (pa_cons
    (pe_callTy (callR_or (cr_setOfS rfl) (cr_setOfD rfl hr.units)) (by rfl) B.set (by decide +kernel) (pa_cons (pv 0) pa_nil)) pa_nil)) pa_nil))), ?_⟩
  refine ⟨_, rfl, ?_⟩
  cases hi with
  | txt ss =>
    rw [List.length_map] at hn
    refine .inl ⟨l, ss, rfl, hl, by show _ < 4096; omega, fun a ts na nt mt => .inl ⟨a, ts, rfl, upd_same, fun ys p2 pm pw np2 => ⟨p2, ys.map V.str, rfl, .inl ⟨.of upd_same, fun p3 np3 => ?_⟩⟩⟩⟩
    have s1 := same_new na (SetSO w a ts)
    have s2 := s1.trans (same_new np2 (.lst (ys.map V.str)))
    refine q _ p3 (ys.map V.str) (ys.map PyData.str) (s2.trans (same_new np3 _)) ⟨?_, fun d => ?_, ?_⟩ ?_ (fun y hy => ?_) upd_same (none_of_same s2 np3)
    · exact List.Pairwise.map _ (fun x y (h : x ≠ y) z => h (by injection z)) (pm.nodup_iff.mpr nt)
    · simp only [List.mem_map]
      constructor
      · rintro ⟨x, hx, rfl⟩
        exact ⟨x, (mt x).mp (pm.mem_iff.mp hx), rfl⟩
      · rintro ⟨x, hx, rfl⟩
        exact ⟨x, pm.mem_iff.mpr ((mt x).mpr hx), rfl⟩
    · rw [List.pairwise_map]
      exact pw
    · exact ddAll_strs ys
    · obtain ⟨x, hx, rfl⟩ := List.mem_map.mp hy
      exact List.mem_map.mpr ⟨x, (mt x).mp (pm.mem_iff.mp hx), rfl⟩
  | keys hd hk al so =>
    refine .inr ⟨l, xs, ds, rfl, hl, hd, hk, hn, fun a L na nL mL cL => .inr ⟨a, L, rfl, upd_same, fun p hp => ⟨(mL p hp).1.mono (same_new na _), (mL p hp).2.1⟩, ?_, ?_, fun L' p2 pm ll pw np2 => ⟨p2, _, rfl, .inl ⟨.of upd_same, fun p3 np3 => ?_⟩⟩⟩⟩
    · intro d hd1 d' hd2
      obtain ⟨p, hp, rfl⟩ := List.mem_map.mp hd1
      obtain ⟨p', hp', rfl⟩ := List.mem_map.mp hd2
      exact al _ (mL p hp).2.2.2 _ (mL p' hp').2.2.2
    · rcases so with so | so
      · exact .inl fun d hd1 => by
          obtain ⟨p, hp, rfl⟩ := List.mem_map.mp hd1
          exact so _ (mL p hp).2.2.2
      · exact .inr fun d hd1 => by
          obtain ⟨p, hp, rfl⟩ := List.mem_map.mp hd1
          exact so _ (mL p hp).2.2.2
    · have s1 := same_new na (SetDO w a L)
      have s2 := s1.trans (same_new np2 (.lst (L'.map fun q => V.ref q.1)))
      have s3 := s2.trans (same_new np3 (.tup (L'.map fun q => V.ref q.1)))
      have gen : ∀ {H3 : Hp} (M : List (Addr × PyData)), (∀ p ∈ M, Dd H3 (.ref p.1) p.2) → DdAll H3 (M.map fun q => V.ref q.1) (M.map (·.2)) := by
        intro H3 M
        induction M with
        | nil => exact fun _ => .nil
        | cons p M ih => exact fun h => .cons (h p List.mem_cons_self) (ih fun q hq => h q (List.mem_cons_of_mem _ hq))
      refine q _ p3 (L'.map fun q => V.ref q.1) (L'.map (·.2)) s3 ⟨(pm.map _).nodup_iff.mpr nL, fun d => ?_, ?_⟩ (gen L' fun p hp => (mL p (pm.mem_iff.mp hp)).1.mono s3) (fun y hy => ?_) upd_same (none_of_same s2 np3)
      · rw [(pm.map (·.2)).mem_iff]
        constructor
        · intro h
          obtain ⟨p, hp, rfl⟩ := List.mem_map.mp h
          exact (mL p hp).2.2.2
        · exact cL d
      · rw [List.pairwise_map]
        exact pw
      · obtain ⟨p, hp, rfl⟩ := List.mem_map.mp hy
        exact (mL p (pm.mem_iff.mp hp)).2.2.1
end
end Lf

set_option maxHeartbeats 4000000
namespace Lf
open PySem PySem.Spec PyProof.Rows L2
theorem lexLt_more (O : PyProof.Rows.KeyOrd) (x : O.α) : ∀ T : List O.α, PyProof.Rows.lexLt O T (T ++ [x]) = true
  | [] => by simp [PyProof.Rows.lexLt]
  | a :: T => by
    have := lexLt_more O x T
    simp only [List.cons_append, PyProof.Rows.lexLt, O.irrefl]
    simpa using this
/-- alike keys, neither before the other: the same -/
theorem key_anti {d e : PyData} (kd : keyD d = true) (ke : keyD e = true) (al : PySem.W.alike d e = true) (h1 : PySem.W.dataLt d e = false) (h2 : PySem.W.dataLt e d = false) : d = e := by
  have tk : PySem.W.keyToks d = PySem.W.keyToks e := (PyProof.Rows.listOrd PyProof.Rows.itemOrd).total _ _ h1 h2
  refine Classical.byContradiction fun ne => ?_
  have nv : d.eqv e = false := by
    cases z : d.eqv e with
    | false => rfl
    | true => exact absurd ((eqv_key kd ke).mp z) ne
  have z := (PySem.W.toks_eqv d e al).2 nv [] [Sum.inl 0]
  rw [tk, List.append_nil, lexLt_more] at z
  have ir := (PyProof.Rows.listOrd PyProof.Rows.itemOrd).irrefl (PySem.W.keyToks e)
  rw [show PyProof.Rows.lexLt PyProof.Rows.itemOrd (PySem.W.keyToks e) (PySem.W.keyToks e) = false from ir] at z
  cases z
theorem sorted_same {α : Type} {r : α → α → Bool} : ∀ {l m : List α}, l.Perm m → (∀ a ∈ l, ∀ b ∈ l, r a b = false → r b a = false → a = b) → l.Pairwise (fun a b => r b a = false) → m.Pairwise (fun a b => r b a = false) → l = m
  | [], m, p, _, _, _ => (List.Perm.nil_eq p)
  | a :: l, [], p, _, _, _ => absurd p.length_eq (by simp)
  | a :: l, b :: m, p, an, hl, hm => by
    rw [List.pairwise_cons] at hl hm
    have e : a = b := by
      have ha : a ∈ b :: m := p.mem_iff.mp List.mem_cons_self
      have hb : b ∈ a :: l := p.mem_iff.mpr List.mem_cons_self
      rcases List.mem_cons.mp ha with h | h
      · exact h
      · rcases List.mem_cons.mp hb with h' | h'
        · exact h'.symm
        · exact an a List.mem_cons_self b hb (hm.1 a h) (hl.1 b h')
    subst e
    rw [sorted_same (List.Perm.cons_inv p) (fun x hx y hy => an x (List.mem_cons_of_mem _ hx) y (List.mem_cons_of_mem _ hy)) hl.2 hm.2]
/-- there is one such answer -/
theorem AscTo.unique {ds es fs : List PyData} (h : AscTo ds es) (k : AscTo ds fs) (kd : ∀ d ∈ ds, keyD d = true) (al : PySem.W.AllAlike ds) : es = fs := by
  refine sorted_same ((List.perm_ext_iff_of_nodup h.nd k.nd).mpr fun d => (h.mem d).trans (k.mem d).symm) (fun a ha b hb h1 h2 => ?_) h.up k.up
  have a1 := (h.mem a).mp ha
  have b1 := (h.mem b).mp hb
  exact key_anti (kd a a1) (kd b b1) (al a a1 b b1) h1 h2
/-- what comes in order with none twice is its own answer -/
theorem AscTo.self {ds es : List PyData} (h : AscTo ds es) : AscTo es es := ⟨h.nd, fun _ => Iff.rfl, h.up⟩
theorem AscTo.congr {ds ds' es : List PyData} (h : AscTo ds es) (k : ∀ d, d ∈ ds ↔ d ∈ ds') : AscTo ds' es := ⟨h.nd, fun d => (h.mem d).trans (k d), h.up⟩
end Lf

set_option maxHeartbeats 4000000
namespace Lf
open PySem PySem.Spec PyProof.Rows L2

/-! ## marks -/
def kvS (kv : List (Str × V)) : List (Key × V) := kv.map fun q => (Sum.inr q.1, q.2)
theorem valV_kvS {kv : List (Str × V)} {k : Str} (h : k ∉ kv.map (·.1)) : valV (kvS kv) (Sum.inr k) = none := by
  induction kv with
  | nil => rfl
  | cons q kv ih =>
    simp only [List.map_cons, List.mem_cons, not_or] at h
    have e : kvS (q :: kv) = (Sum.inr q.1, q.2) :: kvS kv := rfl
    rw [e, valV_neg (by intro z; injection z with z; exact h.1 z.symm)]
    exact ih h.2
theorem valV_kvS_at {kv : List (Str × V)} {k : Str} {z : V} (hn : (kv.map (·.1)).Nodup) (h : (k, z) ∈ kv) : valV (kvS kv) (Sum.inr k) = some z := by
  induction kv with
  | nil => cases h
  | cons q kv ih =>
    rw [List.map_cons, List.nodup_cons] at hn
    have e : kvS (q :: kv) = (Sum.inr q.1, q.2) :: kvS kv := rfl
    rcases List.mem_cons.mp h with rfl | h
    · rw [e, valV_pos rfl]
    · rw [e, valV_neg (by intro y; injection y with y; exact hn.1 (List.mem_map.mpr ⟨_, h, y.symm⟩))]
      exact ih hn.2 h
theorem put_kvS {kv : List (Str × V)} {k : Str} {z : V} (h : k ∉ kv.map (·.1)) : putK (kvS kv) (Sum.inr k) z = kvS (kv ++ [(k, z)]) := by
  rw [putK_new z (valV_kvS h)]
  unfold kvS
  rw [List.map_append]
  rfl
def mkvS (ks : List Str) (m : Str → Str) : List (Str × V) := ks.map fun i => (i, V.str (m i))
theorem mkv_keys (ks : List Str) (m : Str → Str) : (mkvS ks m).map (·.1) = ks := by
  unfold mkvS
  rw [List.map_map]
  exact List.map_id _
/-- at p the marks m of the islands ks -/
def MkD (H : Hp) (p : Addr) (ks : List Str) (m : Str → Str) : Prop := H p = some (.dK (kvS (mkvS ks m)))
theorem MkD.get {H : Hp} {p : Addr} {ks : List Str} {m : Str → Str} (h : MkD H p ks m) (hn : ks.Nodup) {i : Str} (hi : i ∈ ks) : DGet H p (.str i) (some (.str (m i))) := by
  have e := DGet.k (k := Sum.inr i) h
  have hm : (i, V.str (m i)) ∈ mkvS ks m := List.mem_map.mpr ⟨i, hi, rfl⟩
  rw [valV_kvS_at (by rw [mkv_keys]; exact hn) hm] at e
  exact e
/-- {key: value for x in xs}, each key and value told, the keys all unlike -/
theorem dc_at {J : It} {G : Hp → Prop} {xs : List V} {kv : List (Str × V)} {tk tv : TE} {vs : List Nat} {slot : Nat} {σ : L2.St} {H : Hp} {D : Addr} {Qd : Hp → Prop}
    (w : Walk J xs.length G (YAt xs)) (hG : ∀ H2, Same H H2 → G H2) (nD : H D = none) (hl : kv.length = xs.length) (hlen : kv.length ≤ 1000) (hn : (kv.map (·.1)).Nodup)
    (hwp : ∀ v, wipe ((wipe σ vs).set slot (some v)) vs = wipe σ vs)
    (hs : ∀ (i : Nat) (x : V) (k : Str) (z : V) (H2 : Hp) (R : V → V → Hp → Prop), xs[i]? = some x → kv[i]? = some (k, z) → Same H H2 → (∀ H5, Same H2 H5 → R (.str k) z H5) → tk ((wipe σ vs).set slot (some x)) H2 fun y H4 => tv ((wipe σ vs).set slot (some x)) H4 fun z' H5 => R y z' H5)
    (hd : ∀ H2, Same H H2 → H2 D = some (.dK (kvS kv)) → Qd H2) :
    ∃ W : Nat → Nat → Hp → Prop, (∃ m, W 0 m (upd H D (.dK []))) ∧ ∀ i m H, W i m H →
      (J.stop i H ∧ Qd H) ∨ (J.go i H ∧ ∃ Nx : Hp → Prop, (∀ H', Nx H' → ∃ m', m' < m ∧ W (i + 1) m' H') ∧ ∀ x H', J.yld i H x H' → gName slot x (wipe σ vs) H' fun σ2 H2 => wipe σ2 vs = wipe σ vs ∧ tYes σ2 H2 fun b H3 =>
        if b = true then tk σ2 H3 fun y H4 => tv σ2 H4 fun z H5 => ∃ kvs k, y = kV k ∧ H5 D = some (.dK kvs) ∧ kvs.length < sizeLine ∧ Nx (upd H5 D (.dK (putK kvs k z))) else Nx H3) := by
  refine ⟨fun i m H2 => m = xs.length - i ∧ i ≤ xs.length ∧ Same H H2 ∧ H2 D = some (.dK (kvS (kv.take i))), ⟨xs.length, by simp, Nat.zero_le _, same_new nD _, upd_same⟩, ?_⟩
  rintro i m H2 ⟨rfl, hi, sm, hD⟩
  by_cases hlt : i < xs.length
  · refine .inr ⟨w.goes i H2 hlt (hG H2 sm), fun H3 => i + 1 ≤ xs.length ∧ Same H H3 ∧ H3 D = some (.dK (kvS (kv.take (i + 1)))), fun H' p' => ⟨xs.length - (i + 1), by omega, rfl, p'⟩, fun x H' y => ?_⟩
    obtain ⟨rfl, hx⟩ := w.yields i H2 x H' hlt (hG H2 sm) y
    have hlk : i < kv.length := by omega
    obtain ⟨k, z, hk⟩ : ∃ k z, kv[i]? = some (k, z) := ⟨_, _, List.getElem?_eq_getElem hlk⟩
    refine ⟨hwp x, yes ?_⟩
    rw [if_pos rfl]
    refine hs i x k z _ _ hx hk sm fun H5 s5 => ?_
    have enext : kv.take (i + 1) = kv.take i ++ [(k, z)] := by
      rw [List.take_add_one, hk]
      rfl
    have fresh : k ∉ (kv.take i).map (·.1) := by
      have hh : ((kv.take (i + 1)).map (·.1)).Nodup := by
        rw [List.map_take]
        exact hn.sublist (List.take_sublist _ _)
      rw [enext, List.map_append, List.nodup_append] at hh
      exact fun hm => hh.2.2 _ hm k (by simp) rfl
    refine ⟨_, Sum.inr k, rfl, s5 _ _ hD, ?_, by omega, same_upd (sm.trans s5) nD _, ?_⟩
    · unfold kvS
      rw [List.length_map, List.length_take]
      exact small1000 (by omega)
    · rw [upd_same, put_kvS fresh, enext]
  · have e : i = xs.length := by omega
    subst e
    rw [List.take_of_length_le (by omega)] at hD
    exact .inl ⟨w.stops H2 (hG H2 sm), hd H2 sm hD⟩

def spAlone (K : PySem.W.Frag) : Sp := fun vs H Q _ => ∃ v is, vs = [v] ∧ SqD H v (is.map V.str) ∧ is.Nodup ∧ is.length ≤ 60 ∧ ∀ p H', Same H H' → MkD H' p is (fun i => i) → Q (.ref p) H'
section
variable {P : Program} {w : World} {K : PySem.W.Frag} {mg : Str → Option Value} {base : Heap} {f : Addr} {fd : FuncData}
theorem scAlone : FnScope ["islands", "island"] ["islands"] (defScope (topS 4)) := ⟨rfl, rfl, rfl, by decide +kernel, rfl, by decide +kernel, by decide +kernel⟩
theorem ok_alone (B : Bts mg) (F : Fun K "marks_alone" "marks_alone" (topS 4) f fd) : FnOk P w K mg base CX0 1 f fd ["islands"] (spAlone K) := by
  refine F.ok scAlone (fun vs H Q E h => ?_) (fun cdv A outer s H vs Q E hr h => ?_)
  · obtain ⟨v, is, rfl, _⟩ := h
    rfl
  obtain ⟨v, is, rfl, ⟨a, rfl, ha⟩, hn, hl, q⟩ := h
  refine ⟨_, pss_one (ps_ret (pe_dc (own := [("island", 1)]) (g := gName 1) rfl scAlone.nd (pi_seq (pv 0)) (blkOk_by (own := [("island", 1)]) (N := ["islands", "island"]) (sc := defScope (topS 4)) (by decide +kernel))
    (fun _ _ _ _ _ => pg_name (i := 1) scAlone.nd rfl (Or.inl rfl)) (fun _ _ _ _ _ => pts_nil) (fun _ _ _ _ _ => pv 1) (fun _ _ _ _ _ => pv 1))), ?_⟩
  have turn : ∀ (i : Nat) (x : V) (k : Str) (z : V) (H2 : Hp) (R : V → V → Hp → Prop), (is.map V.str)[i]? = some x → (mkvS is (fun i => i))[i]? = some (k, z) → Same H H2 → (∀ H5, Same H2 H5 → R (.str k) z H5) →
      tVar 1 ((wipe [some (V.ref a), none] [1]).set 1 (some x)) H2 fun y H4 => tVar 1 ((wipe [some (V.ref a), none] [1]).set 1 (some x)) H4 fun z' H5 => R y z' H5 := by
    intro i x k z H2 R hx hk s2 r
    unfold mkvS at hk
    rw [List.getElem?_map] at hx hk
    cases e : is[i]? with
    | none => rw [e] at hx; cases hx
    | some c =>
      rw [e] at hx hk
      cases hx
      cases hk
      exact ⟨_, rfl, _, rfl, r H2 (.refl _)⟩
  have ll : (mkvS is (fun i => i)).length = (is.map V.str).length := by
    unfold mkvS
    rw [List.length_map, List.length_map]
  have l2 : (mkvS is (fun i => i)).length ≤ 1000 := by
    unfold mkvS
    rw [List.length_map]
    omega
  have nn : ((mkvS is (fun i => i)).map (·.1)).Nodup := by
    rw [mkv_keys]
    exact hn
  refine ⟨_, rfl, a, rfl, ?_⟩
  rcases ha with ha | ha
  · refine .inl ⟨⟨_, .of ha⟩, fun D nD => ?_⟩
    exact dc_at (walk_list (K := K) (a := a)) (fun H2 s2 => .of (s2 _ _ ha)) nD ll l2 nn (fun v => rfl) turn fun H2 s2 hD => q D H2 s2 hD
  · refine .inr ⟨⟨_, .of ha⟩, fun D nD => ?_⟩
    exact dc_at (walk_tup (K := K) (a := a)) (fun H2 s2 => .of (s2 _ _ ha)) nD ll l2 nn (fun v => rfl) turn fun H2 s2 hD => q D H2 s2 hD

/-! ## joins -/
def rIxD (K : PySem.W.Frag) : R2 := fun x y H Q => rIxL K x y H Q ∨ rIxT K x y H Q
theorem ix_seq {X : Cx} : IxR X (rIxD X.K) := ixR_or ix_list ix_tup
theorem SqD.ix {K : PySem.W.Frag} {H : Hp} {v : V} {xs : List V} {i : Int} {x : V} {Q : VK} (h : SqD H v xs) (e : atI xs i = some x) (q : Q x H) : rIxD K v (.int i) H Q := by
  obtain ⟨a, rfl, h | h⟩ := h
  · exact .inl ⟨a, xs, i, x, rfl, rfl, .of h, e, q⟩
  · exact .inr ⟨a, xs, i, x, rfl, rfl, .of h, e, q⟩
def spJoins : Sp := fun vs H Q _ => ∃ p v ks m a b, vs = [.ref p, v] ∧ MkD H p ks m ∧ ks.Nodup ∧ SqD H v [.str a, .str b] ∧ a ∈ ks ∧ b ∈ ks ∧ Q (.bl (decide (m a = m b))) H
theorem scJoins : FnScope ["marks", "pair"] ["marks", "pair"] (defScope (topS 7)) := ⟨rfl, rfl, rfl, by decide +kernel, rfl, by decide +kernel, by decide +kernel⟩
theorem ok_joins (B : Bts mg) (F : Fun K "joins" "joins" (topS 7) f fd) : FnOk P w K mg base CX0 1 f fd ["marks", "pair"] spJoins := by
  refine F.ok scJoins (fun vs H Q E h => ?_) (fun cdv A outer s H vs Q E hr h => ?_)
  · obtain ⟨p, v, ks, m, a, b, rfl, _⟩ := h
    rfl
  obtain ⟨p, v, ks, m, a, b, rfl, hm, hn, hv, ha, hb, q⟩ := h
  have hu := hu_of hr
  refine ⟨_, pss_one (ps_ret (pe_cmpR op_eq (pe_dget hu (pv 0) (pe_ix ix_seq (pv 1) pe_int (fun _ _ => rfl)) (fun _ _ => rfl)) (pe_dget hu (pv 0) (pe_ix ix_seq (pv 1) pe_int (fun _ _ => rfl)) (fun _ _ => rfl)) (nomark _))), ?_⟩
  refine ⟨_, rfl, _, rfl, hv.ix (atI_nat (j := 0) rfl) ⟨_, _, rfl, hm.get hn ha, _, rfl, _, rfl, hv.ix (atI_nat (j := 1) rfl) ⟨_, _, rfl, hm.get hn hb, rfl, ?_⟩⟩⟩
  have e : decide (V.str (m a) = V.str (m b)) = decide (m a = m b) := decide_eq_decide.mpr ⟨fun h => by injection h, fun h => by rw [h]⟩
  rw [e]
  exact q
end
end Lf

set_option maxHeartbeats 4000000
namespace Lf
open PySem PySem.Spec PyProof.Rows L2

def lotT (l : List Str) : PyData := .tuple (l.map PyData.str)
theorem markS_at : ∀ {ls : List (List Str)}, ls.flatten.Nodup → ∀ l ∈ ls, ∀ k ∈ l, markS ls k = headS l
  | l0 :: ls, h, l, hl, k, hk => by
    rw [List.flatten_cons, List.nodup_append] at h
    unfold markS
    rw [List.find?_cons]
    by_cases c : k ∈ l0
    · rw [decide_eq_true c]
      rcases List.mem_cons.mp hl with rfl | hl
      · rfl
      · exact absurd rfl (h.2.2 k c k (List.mem_flatten.mpr ⟨l, hl, hk⟩))
    · rw [decide_eq_false c]
      rcases List.mem_cons.mp hl with rfl | hl
      · exact absurd hk c
      · exact markS_at h.2.1 l hl k hk
theorem flat_cut {ls : List (List Str)} {i : Nat} {l : List Str} (e : ls[i]? = some l) : ls.flatten = (ls.take i).flatten ++ l ++ (ls.drop (i + 1)).flatten := by
  obtain ⟨hi, e⟩ := List.getElem?_eq_some_iff.mp e
  have z : ls = ls.take i ++ l :: ls.drop (i + 1) := by
    rw [← e, List.getElem_cons_drop, List.take_append_drop]
  conv => lhs; rw [z]
  rw [List.flatten_append, List.flatten_cons, List.append_assoc]
theorem flat_next {ls : List (List Str)} {i : Nat} {l : List Str} (e : ls[i]? = some l) : (ls.take (i + 1)).flatten = (ls.take i).flatten ++ l := by
  rw [List.take_add_one, e, List.flatten_append]
  simp
theorem lots_at {H : Hp} : ∀ {ls : List (List Str)} {xs : List V} {i : Nat} {x : V}, DdAll H xs (ls.map lotT) → xs[i]? = some x → ∃ l a, ls[i]? = some l ∧ x = .ref a ∧ H a = some (.tup (l.map V.str)) := by
  intro ls xs i x h e
  obtain ⟨d, g1, k1⟩ := h.get e
  rw [List.getElem?_map] at g1
  cases el : ls[i]? with
  | none => rw [el] at g1; cases g1
  | some l =>
    rw [el] at g1
    cases g1
    cases k1 with
    | tup h1 h2 => exact ⟨l, _, rfl, rfl, by rw [h1, dd_strs h2]⟩
def spMarksOf : Sp := fun vs H Q _ => ∃ v ls, vs = [v] ∧ Dd H v (.tuple (ls.map lotT)) ∧ ls.flatten.Nodup ∧ (∀ l ∈ ls, l ≠ []) ∧ ls.flatten.length ≤ 60 ∧ ∀ p H', Same H H' → MkD H' p ls.flatten (markS ls) → Q (.ref p) H'
section
variable {P : Program} {w : World} {K : PySem.W.Frag} {mg : Str → Option Value} {base : Heap} {f : Addr} {fd : FuncData}
theorem scMarks : FnScope ["parting", "lot", "island"] ["parting"] (defScope (topS 5)) := ⟨rfl, rfl, rfl, by decide +kernel, rfl, by decide +kernel, by decide +kernel⟩
theorem ok_marks (B : Bts mg) (F : Fun K "marks_of" "marks_of" (topS 5) f fd) : FnOk P w K mg base CX0 1 f fd ["parting"] spMarksOf := by
  refine F.ok scMarks (fun vs H Q E h => ?_) (fun cdv A outer s H vs Q E hr h => ?_)
  · obtain ⟨v, ls, rfl, _⟩ := h
    rfl
  obtain ⟨v, ls, rfl, hd, hn, hne, hl, q⟩ := h
  refine ⟨_, pss_one (ps_ret (pe_dc2 (own := [("lot", 1), ("island", 2)]) (ws := [2]) (g := gName 1) (gj := gName 2) rfl scMarks.nd (pi_tup (pv 0)) (blkOk_by (own := [("lot", 1), ("island", 2)]) (N := ["parting", "lot", "island"]) (sc := defScope (topS 5)) (by decide +kernel)) (by decide)
    (fun _ _ _ _ _ => pg_name (i := 1) scMarks.nd rfl (Or.inl rfl)) (fun _ _ _ _ _ => pts_nil) (fun _ _ _ _ _ => show PI _ _ _ (iTup K (tVar 1)) from pi_tup (pv 1)) (fun _ _ _ _ _ => pg_name (i := 2) scMarks.nd rfl (Or.inl rfl)) (fun _ _ _ _ _ => pts_nil) (fun _ _ _ _ _ => pv 2)
    (fun _ _ _ _ _ => show PE _ _ (tOp (rIxT K) (tVar 1) (tC (.int 0))) from pe_ix ix_tup (pv 1) pe_int (fun _ _ => rfl)))), ?_⟩
  cases hd with
  | @tup a xs ds h1 h2 =>
    have hx := h2.length
    rw [List.length_map] at hx
    refine ⟨_, rfl, a, rfl, ⟨_, .of h1⟩, fun D nD => ?_⟩
    refine ⟨fun i m H2 => m = xs.length - i ∧ i ≤ xs.length ∧ Same H H2 ∧ H2 D = some (.dK (kvS (mkvS (ls.take i).flatten (markS ls)))), ⟨xs.length, by simp, Nat.zero_le _, same_new nD _, upd_same⟩, ?_⟩
    rintro i m H2 ⟨rfl, hi, sm, hD⟩
    by_cases hlt : i < xs.length
    · refine .inr ⟨(walk_tup (K := K)).goes i H2 hlt (.of (sm _ _ h1)), fun H3 => i + 1 ≤ xs.length ∧ Same H H3 ∧ H3 D = some (.dK (kvS (mkvS (ls.take (i + 1)).flatten (markS ls)))), fun H' p' => ⟨xs.length - (i + 1), by omega, rfl, p'⟩, fun x H' y => ?_⟩
      obtain ⟨rfl, hxi⟩ := (walk_tup (K := K)).yields i H2 x H' hlt (.of (sm _ _ h1)) y
      obtain ⟨l, b, el, rfl, hb⟩ := lots_at h2 hxi
      refine ⟨rfl, yes ?_⟩
      rw [if_pos rfl]
      have hln : l ≠ [] := hne l (List.mem_of_getElem? el)
      have cut := flat_cut el
      have nd1 : ((ls.take i).flatten ++ l).Nodup := by
        rw [cut, List.nodup_append] at hn
        exact hn.1
      have ln1 : ((ls.take i).flatten ++ l).length ≤ 60 := by
        rw [cut, List.length_append] at hl
        omega
      refine ⟨_, rfl, b, rfl, ⟨_, .of (sm _ _ hb)⟩, ?_⟩
      refine ⟨fun j k H4 => k = l.length - j ∧ j ≤ l.length ∧ Same H H4 ∧ H4 D = some (.dK (kvS (mkvS ((ls.take i).flatten ++ l.take j) (markS ls)))), ⟨l.length, by simp, Nat.zero_le _, sm, ?_⟩, ?_⟩
      · rw [List.take_zero, List.append_nil]
        exact hD
      rintro j k H4 ⟨rfl, hj, sm4, hD4⟩
      have hlen : (l.map V.str).length = l.length := List.length_map _
      by_cases hjt : j < l.length
      · refine .inr ⟨(walk_tup (K := K)).goes j H4 (by rw [hlen]; exact hjt) (.of (sm4 _ _ hb)), fun H3 => j + 1 ≤ l.length ∧ Same H H3 ∧ H3 D = some (.dK (kvS (mkvS ((ls.take i).flatten ++ l.take (j + 1)) (markS ls)))), fun H' p' => ⟨l.length - (j + 1), by omega, rfl, p'⟩, fun x H' y => ?_⟩
        obtain ⟨rfl, hxj⟩ := (walk_tup (K := K)).yields j H4 x H' (by rw [hlen]; exact hjt) (.of (sm4 _ _ hb)) y
        obtain ⟨c, ec, rfl⟩ : ∃ c, l[j]? = some c ∧ x = .str c := by
          rw [List.getElem?_map] at hxj
          cases ec : l[j]? with
          | none => rw [ec] at hxj; cases hxj
          | some c =>
            rw [ec] at hxj
            cases hxj
            exact ⟨c, rfl, rfl⟩
        have hcl : c ∈ l := List.mem_of_getElem? ec
        obtain ⟨c0, l', rfl⟩ : ∃ c0 l', l = c0 :: l' := by
          cases l with
          | nil => exact absurd rfl hln
          | cons c0 l' => exact ⟨c0, l', rfl⟩
        have em : markS ls c = c0 := markS_at hn _ (List.mem_of_getElem? el) c hcl
        have et : (c0 :: l').take (j + 1) = (c0 :: l').take j ++ [c] := by
          rw [List.take_add_one, ec]
          rfl
        have fresh : c ∉ (ls.take i).flatten ++ (c0 :: l').take j := by
          have nn : ((ls.take i).flatten ++ (c0 :: l').take (j + 1)).Nodup := nd1.sublist ((List.Sublist.refl _).append (List.take_sublist _ _))
          rw [et, ← List.append_assoc, List.nodup_append] at nn
          exact fun hm => nn.2.2 _ hm c (List.mem_singleton.mpr rfl) rfl
        refine ⟨rfl, yes ?_⟩
        rw [if_pos rfl]
        refine ⟨_, rfl, _, rfl, b, _, _, _, rfl, rfl, .of (sm4 _ _ hb), atI_nat (j := 0) rfl, _, Sum.inr c, rfl, hD4, ?_, by omega, same_upd sm4 nD _, ?_⟩
        · unfold kvS mkvS
          rw [List.length_map, List.length_map, List.length_append, List.length_take]
          rw [List.length_append] at ln1
          exact small1000 (by omega)
        · rw [upd_same, put_kvS (by rw [mkv_keys]; exact fresh), et, ← List.append_assoc]
          unfold mkvS
          rw [List.map_append, List.map_append, List.map_append, ← em]
          rfl
      · have e : j = l.length := by omega
        subst e
        refine .inl ⟨?_, by omega, sm4, ?_⟩
        · have z := (walk_tup (K := K) (a := b) (xs := l.map V.str)).stops H4 (.of (sm4 _ _ hb))
          rw [hlen] at z
          exact z
        · rw [flat_next el]
          rw [List.take_length] at hD4
          exact hD4
    · have e : i = xs.length := by omega
      subst e
      rw [List.take_of_length_le (by omega)] at hD
      exact .inl ⟨(walk_tup (K := K)).stops H2 (.of (sm _ _ h1)), q D H2 sm hD⟩
end
end Lf

set_option maxHeartbeats 4000000
namespace Lf
open PySem PySem.Spec PyProof.Rows L2

theorem perm_two {α : Type} {a b : α} {ys : List α} (h : ys.Perm [a, b]) : ys = [a, b] ∨ ys = [b, a] := by
  have hl := h.length_eq
  match ys, hl, h with
  | [x, y], _, h =>
    have hx : x ∈ [a, b] := h.mem_iff.mp List.mem_cons_self
    rcases List.mem_cons.mp hx with e | e
    · subst e
      have := (List.perm_cons x).mp h
      exact .inl (by rw [List.perm_singleton.mp this])
    · have e := List.mem_singleton.mp e
      subst e
      have := (List.perm_cons x).mp (h.trans (List.Perm.swap x a []))
      exact .inr (by rw [List.perm_singleton.mp this])
def spMerged : Sp := fun vs H Q _ => ∃ p v ks m a b, vs = [.ref p, v] ∧ MkD H p ks m ∧ ks.Nodup ∧ ks.length ≤ 60 ∧ SqD H v [.str a, .str b] ∧ a ∈ ks ∧ b ∈ ks ∧
  ∀ p' H' lo hi, Same H H' → ((lo = m a ∧ hi = m b) ∨ (lo = m b ∧ hi = m a)) → MkD H' p' ks (melt m lo hi) → Q (.ref p') H'
section
variable {P : Program} {w : World} {K : PySem.W.Frag} {mg : Str → Option Value} {base : Heap} {f : Addr} {fd : FuncData}
theorem scMerged : FnScope ["marks", "pair", "low", "high", "island"] ["marks", "pair"] (defScope (topS 9)) := ⟨rfl, rfl, rfl, by decide +kernel, rfl, by decide +kernel, by decide +kernel⟩
theorem ok_merged (B : Bts mg) (F : Fun K "merged" "merged" (topS 9) f fd) : FnOk P w K mg base CX0 1 f fd ["marks", "pair"] spMerged := by
  refine F.ok scMerged (fun vs H Q E h => ?_) (fun cdv A outer s H vs Q E hr h => ?_)
  · obtain ⟨p, v, ks, m, a, b, rfl, _⟩ := h
    rfl
  obtain ⟨p, v, ks, m, a, b, rfl, hm, hn, hl, hv, ha, hb, q⟩ := h
  have hu := hu_of hr
  refine ⟨_, pss_cons (ps_asg (pe_callB cr_sortedS (by rfl) B.sorted (by decide +kernel) (pa_cons (pe_lst (pa_cons (pe_dget hu (pv 0) (pe_ix ix_seq (pv 1) pe_int (fun _ _ => rfl)) (fun _ _ => rfl)) (pa_cons (pe_dget hu (pv 0) (pe_ix ix_seq (pv 1) pe_int (fun _ _ => rfl)) (fun _ _ => rfl)) pa_nil))) pa_nil))
      (pg_unl rfl (pgs_cons (pg_name (i := 2) scMerged.nd rfl (Or.inr rfl)) (pgs_cons (pg_name (i := 3) scMerged.nd rfl (Or.inr rfl)) pgs_nil))))
    (pss_one (ps_ret (pe_lock (pe_dc (own := [("island", 4)]) (g := gName 4) rfl scMerged.nd (pi_keys (pv 0)) (blkOk_by (own := [("island", 4)]) (N := ["marks", "pair", "low", "high", "island"]) (sc := defScope (topS 9)) (by decide +kernel))
      (fun _ _ _ _ _ => pg_name (i := 4) scMerged.nd rfl (Or.inl rfl)) (fun _ _ _ _ _ => pts_nil) (fun _ _ _ _ _ => pv 4)
      (fun _ _ _ _ _ => pe_ifExp (pt_cmpR op_eq (pe_dget hu (pv 0) (pv 4) (fun _ _ => rfl)) (pv 3) (nomark _)) (pv 2) (pe_dget hu (pv 0) (pv 4) (fun _ _ => rfl))))))), ?_⟩
  refine ⟨_, rfl, _, rfl, hv.ix (atI_nat (j := 0) rfl) ⟨_, _, rfl, hm.get hn ha, _, rfl, _, rfl, hv.ix (atI_nat (j := 1) rfl) ⟨_, _, rfl, hm.get hn hb, (by show 2 ≤ sizeLine; decide), fun L nL => ?_⟩⟩⟩
  have s1 := same_new nL (.lst [V.str (m a), V.str (m b)])
  have e1 : upd H L (.lst [V.str (m a), V.str (m b)]) L = some (.lst ([m a, m b].map V.str)) := upd_same
  generalize upd H L (.lst [V.str (m a), V.str (m b)]) = H1 at s1 e1 ⊢
  refine ⟨L, [m a, m b], rfl, .of e1, (by show 2 < 64; decide), fun ys r pm _ nr => ?_⟩
  have s2 := s1.trans (same_new nr (.lst (ys.map V.str)))
  have e2 : upd H1 r (.lst (ys.map V.str)) r = some (.lst (ys.map V.str)) := upd_same
  generalize upd H1 r (.lst (ys.map V.str)) = H2 at s2 e2 ⊢
  obtain ⟨lo, hi, rfl, hlh⟩ : ∃ lo hi, ys = [lo, hi] ∧ ((lo = m a ∧ hi = m b) ∨ (lo = m b ∧ hi = m a)) := by
    rcases perm_two pm with e | e
    · exact ⟨_, _, e, .inl ⟨rfl, rfl⟩⟩
    · exact ⟨_, _, e, .inr ⟨rfl, rfl⟩⟩
  refine ⟨r, _, rfl, .of e2, rfl, _, _, rfl, _, _, rfl, rfl, ?_⟩
  have hm2 : H2 p = some (.dK (kvS (mkvS ks m))) := s2 _ _ hm
  refine ⟨p, _, hm2, trivial, fun od => ?_⟩
  have el : upd H2 p (.frz od (.dK (kvS (mkvS ks m)))) p = some (.frz od (.dK (kvS (mkvS ks m)))) := upd_same
  have ek : (kvS (mkvS ks m)).map (fun q => kV q.1) = ks.map V.str := by
    unfold kvS mkvS
    rw [List.map_map, List.map_map]
    rfl
  have el2 : (kvS (mkvS ks m)).length = (ks.map V.str).length := by rw [← ek, List.length_map]
  refine ⟨_, rfl, p, od, rfl, .inl ⟨_, el, fun D nD => ?_⟩⟩
  have wk : Walk (Itk p od (kvS (mkvS ks m))) (ks.map V.str).length (fun H => H p = some (.frz od (.dK (kvS (mkvS ks m))))) (YAt (ks.map V.str)) := by
    rw [← el2]
    refine (walk_keys (d := p) (o := od) (kvs := kvS (mkvS ks m))).mono (fun _ h => h) fun i H x H' _ _ y => ?_
    obtain ⟨rfl, k, z, e, rfl⟩ := y
    refine ⟨rfl, ?_⟩
    rw [← ek, List.getElem?_map, e]
    rfl
  refine dc_at (kv := mkvS ks (melt m lo hi)) wk (fun H3 s3 => s3 _ _ el) nD ?_ ?_ ?_ (fun v => rfl) (fun i x k z H3 R hx hk s3 rr => ?_) (fun H3 s3 hD => ?_)
  · unfold mkvS
    rw [List.length_map, List.length_map]
  · unfold mkvS
    rw [List.length_map]
    omega
  · rw [mkv_keys]
    exact hn
  · unfold mkvS at hk
    rw [List.getElem?_map] at hx hk
    cases e : ks[i]? with
    | none => rw [e] at hx; cases hx
    | some c =>
      rw [e] at hx hk
      cases hx
      cases hk
      have hc : k ∈ ks := List.mem_of_getElem? e
      have gd : DGet H3 p (.str k) (some (.str (m k))) := by
        have hm : (k, V.str (m k)) ∈ mkvS ks m := List.mem_map.mpr ⟨k, hc, rfl⟩
        have v1 := valV_kvS_at (by rw [mkv_keys]; exact hn) hm
        exact .inl ⟨_, Sum.inr k, .inr ⟨od, s3 _ _ el⟩, rfl, v1.symm⟩
      refine ⟨_, rfl, _, rfl, _, rfl, p, _, rfl, gd, _, rfl, rfl, _, rfl, ?_⟩
      have e3 : decide (V.str (m k) = V.str hi) = decide (m k = hi) := decide_eq_decide.mpr ⟨fun h => by injection h, fun h => by rw [h]⟩
      rw [e3]
      have e4 : melt m lo hi k = if m k = hi then lo else m k := rfl
      by_cases c1 : m k = hi
      · rw [e4, if_pos c1] at rr
        rw [decide_eq_true c1]
        exact iteT ⟨_, rfl, rr H3 (.refl _)⟩
      · rw [e4, if_neg c1] at rr
        rw [decide_eq_false c1]
        exact iteF ⟨_, rfl, _, rfl, p, _, rfl, gd, rr H3 (.refl _)⟩
  · have hDp : D ≠ p := fun e => by
      rw [e, el] at nD
      cases nD
    refine ⟨s3 _ _ el, q D _ lo hi (s2.trans fun b o e => ?_) hlh ?_⟩
    · by_cases hb : b = p
      · subst hb
        rw [upd_same, ← hm2, e]
      · rw [upd_ne hb]
        exact s3 _ _ ((upd_ne hb).trans e)
    · show upd H3 p _ D = _
      rw [upd_ne hDp]
      exact hD
end
/-! ## loops over a list or a tuple -/
theorem for_seq {K : PySem.W.Frag} {a : Addr} {xs : List V} {g : TG} {tb : TS} {D : Ends} {σ : L2.St} {H : Hp} (ha : H a = some (.lst xs) ∨ H a = some (.tup xs)) (Pv : Nat → L2.St → Hp → Prop) (h0 : Pv 0 σ H) (hG : ∀ i σ H2, Pv i σ H2 → Same H H2)
    (hs : ∀ (i : Nat) x σ H2, i < xs.length → Pv i σ H2 → xs[i]? = some x → g x σ H2 fun σ2 H3 => tb { D with nx := Pv (i + 1), ct := Pv (i + 1), bk := D.nx } σ2 H3) (hd : ∀ σ H2, Pv xs.length σ H2 → D.nx σ H2) :
    ((∃ xs, SqL K H a xs) ∧ ∃ W : Nat → Nat → L2.St → Hp → Prop, (∃ m, W 0 m σ H) ∧ ∀ i m σ H, W i m σ H →
      ((Itl K a).stop i H ∧ D.nx σ H) ∨ ((Itl K a).go i H ∧ ∃ N : L2.St → Hp → Prop, (∀ σ' H', N σ' H' → ∃ m', m' < m ∧ W (i + 1) m' σ' H') ∧ ∀ x H', (Itl K a).yld i H x H' → g x σ H' fun σ2 H2 => tb { D with nx := N, ct := N, bk := D.nx } σ2 H2)) ∨
    ((∃ xs, SqT K H a xs) ∧ ∃ W : Nat → Nat → L2.St → Hp → Prop, (∃ m, W 0 m σ H) ∧ ∀ i m σ H, W i m σ H →
      ((Itt K a).stop i H ∧ D.nx σ H) ∨ ((Itt K a).go i H ∧ ∃ N : L2.St → Hp → Prop, (∀ σ' H', N σ' H' → ∃ m', m' < m ∧ W (i + 1) m' σ' H') ∧ ∀ x H', (Itt K a).yld i H x H' → g x σ H' fun σ2 H2 => tb { D with nx := N, ct := N, bk := D.nx } σ2 H2)) := by
  rcases ha with ha | ha
  · refine .inl ⟨⟨_, .of ha⟩, for_it (walk_list (K := K) (a := a) (xs := xs)) Pv h0 (fun i σ H2 _ hP => .of (hG i σ H2 hP _ _ ha)) (fun i x σ H2 H3 hi hP hY => ?_) hd⟩
    obtain ⟨rfl, hx⟩ := hY
    exact hs i x σ _ hi hP hx
  · refine .inr ⟨⟨_, .of ha⟩, for_it (walk_tup (K := K) (a := a) (xs := xs)) Pv h0 (fun i σ H2 _ hP => .of (hG i σ H2 hP _ _ ha)) (fun i x σ H2 H3 hi hP hY => ?_) hd⟩
    obtain ⟨rfl, hx⟩ := hY
    exact hs i x σ _ hi hP hx
/-! ## all_merged -/
/-- pairs in a sequence, list or tuple -/
def PqsD (H : Hp) (v : V) (ps : List (Str × Str)) : Prop := ∃ xs, SqD H v xs ∧ xs.length = ps.length ∧ ∀ (i : Nat) (x : V) (p : Str × Str), xs[i]? = some x → ps[i]? = some p → SqD H x [.str p.1, .str p.2]
theorem PqsD.mono {H H' : Hp} {v : V} {ps : List (Str × Str)} (h : PqsD H v ps) (s : Same H H') : PqsD H' v ps := by
  obtain ⟨xs, h1, h2, h3⟩ := h
  exact ⟨xs, h1.mono s, h2, fun i x p e1 e2 => (h3 i x p e1 e2).mono s⟩
def spAll : Sp := fun vs H Q _ => ∃ p v ks m ps0 ps, vs = [.ref p, v] ∧ MkD H p ks m ∧ ks.Nodup ∧ ks.length ≤ 60 ∧ PqsD H v ps ∧ (∀ p ∈ ps, p.1 ∈ ks ∧ p.2 ∈ ks) ∧ Fine ps0 m ∧
  ∀ p' H' m', Same H H' → MkD H' p' ks m' → Fine (ps0 ++ ps) m' → Q (.ref p') H'
section
variable {P : Program} {w : World} {K : PySem.W.Frag} {mg : Str → Option Value} {base : Heap} {f : Addr} {fd : FuncData}
theorem scAll : FnScope ["marks", "pairs", "pair"] ["marks", "pairs"] (defScope (topS 10)) := ⟨rfl, rfl, rfl, by decide +kernel, rfl, by decide +kernel, by decide +kernel⟩
theorem ok_all (B : Bts mg) (gJ : Has P w K mg base 1 "joins" ["marks", "pair"] spJoins) (gM : Has P w K mg base 1 "merged" ["marks", "pair"] spMerged) (F : Fun K "all_merged" "all_merged" (topS 10) f fd) : FnOk P w K mg base CX0 2 f fd ["marks", "pairs"] spAll := by
  refine F.ok scAll (fun vs H Q E h => ?_) (fun cdv A outer s H vs Q E hr h => ?_)
  · obtain ⟨p, v, ks, m, ps0, ps, rfl, _⟩ := h
    rfl
  obtain ⟨p, v, ks, m, ps0, ps, rfl, hm, hn, hl, ⟨xs, ⟨a, rfl, ha⟩, hlen, hx⟩, hin, hF, q⟩ := h
  refine ⟨_, pss_cons (ps_for PassesOwn.never rfl (pi_seq (pv 1)) (pg_name (i := 2) scAll.nd rfl (Or.inl rfl))
      (pss_one (ps_if (pt_not (pt_val (pe_has gJ hr (pa_cons (pv 0) (pa_cons (pv 2) pa_nil))))) (pss_one (ps_set (i := 0) scAll.nd rfl (Or.inl rfl) (pe_has gM hr (pa_cons (pv 0) (pa_cons (pv 2) pa_nil))))) pss_nil)))
    (pss_one (ps_ret (pv 0))), ?_⟩
  refine ⟨_, rfl, a, rfl, ?_⟩
  refine for_seq ha (fun i σ H2 => ∃ t p' m', σ = [some (.ref p'), some (.ref a), t] ∧ Same H H2 ∧ MkD H2 p' ks m' ∧ Fine (ps0 ++ ps.take i) m') ⟨none, p, m, rfl, .refl _, hm, by rw [List.take_zero, List.append_nil]; exact hF⟩
    (fun i σ H2 hP => by obtain ⟨t, p', m', _, s, _⟩ := hP; exact s) (fun i x σ H2 hi hP hxi => ?_) (fun σ H2 hP => ?_)
  · obtain ⟨t, p', m', rfl, sm, hm', hF'⟩ := hP
    have hip : i < ps.length := by omega
    obtain ⟨pr, hpr⟩ : ∃ pr, ps[i]? = some pr := ⟨_, List.getElem?_eq_getElem hip⟩
    have hsq := (hx i x pr hxi hpr).mono sm
    obtain ⟨in1, in2⟩ := hin pr (List.mem_of_getElem? hpr)
    have enext : ps0 ++ ps.take (i + 1) = (ps0 ++ ps.take i) ++ [pr] := by
      rw [List.take_add_one, hpr, ← List.append_assoc]
      rfl
    refine ⟨_, rfl, _, rfl, p', x, ks, m', pr.1, pr.2, rfl, hm', hn, hsq, in1, in2, ?_⟩
    refine ⟨_, rfl, ?_⟩
    by_cases c : m' pr.1 = m' pr.2
    · rw [decide_eq_true c]
      refine iteF ⟨_, _, _, rfl, sm, hm', ?_⟩
      rw [enext]
      exact hF'.keep c
    · rw [decide_eq_false c]
      refine iteT ⟨_, rfl, _, rfl, p', x, ks, m', pr.1, pr.2, rfl, hm', hn, hl, hsq, in1, in2, fun p2 H3 lo hi' s3 hlh hm3 => ?_⟩
      refine ⟨_, p2, _, rfl, sm.trans s3, hm3, ?_⟩
      rw [enext]
      exact hF'.melt hlh
  · obtain ⟨t, p', m', rfl, sm, hm', hF'⟩ := hP
    rw [List.take_of_length_le (by omega)] at hF'
    exact ⟨_, rfl, q p' H2 m' sm hm' hF'⟩
end
end Lf

set_option maxHeartbeats 4000000
namespace Lf
open PySem PySem.Spec PyProof.Rows L2

/-! ## texts in order -/
def ltB (x y : Str) : Bool := decide (x.cps.toList < y.cps.toList)
theorem ltB_irr (x : Str) : ltB x x = false := decide_eq_false (List.lt_irrefl _)
theorem ltB_asym (x y : Str) (h : ltB x y = true) : ltB y x = false := decide_eq_false fun z => List.lt_irrefl _ (List.lt_trans (of_decide_eq_true h) z)
theorem ltB_anti {x y : Str} (h1 : ltB x y = false) (h2 : ltB y x = false) : x = y := by
  have l1 : y.cps.toList ≤ x.cps.toList := of_decide_eq_false h1
  rcases List.le_iff_lt_or_eq.mp l1 with z | z
  · exact absurd z (of_decide_eq_false h2)
  · exact PySem.W.str_of_cps z.symm
/-- one after the other -/
abbrev AscS (is : List Str) : Prop := is.Pairwise fun a b => ltB a b = true
theorem AscS.nd {is : List Str} (h : AscS is) : is.Nodup := List.Pairwise.imp (fun {a b} (q : ltB a b = true) e => by rw [e, ltB_irr] at q; cases q) h
theorem rising_pw : ∀ (r : List Str) (p : Str), risingS p r = true → (∀ x ∈ r, ltB x p = false) ∧ r.Pairwise fun a b => ltB b a = false
  | [], _, _ => ⟨(fun x hx => by cases hx), List.Pairwise.nil⟩
  | y :: r, p, h => by
    simp only [risingS, Bool.and_eq_true, Bool.not_eq_true'] at h
    have h1 : ltB y p = false := by
      have := h.1
      rw [ltCps_eq] at this
      exact this
    obtain ⟨i1, i2⟩ := rising_pw r y h.2
    refine ⟨fun x hx => ?_, List.Pairwise.cons i1 i2⟩
    rcases List.mem_cons.mp hx with rfl | hx
    · exact h1
    · refine decide_eq_false fun z => ?_
      have e1 : y.cps.toList ≤ x.cps.toList := of_decide_eq_false (i1 x hx)
      exact of_decide_eq_false h1 (List.lt_of_le_of_lt e1 z)
theorem sortedS_pw {l : List Str} (h : sortedS l = true) : l.Pairwise fun a b => ltB b a = false := by
  cases l with
  | nil => exact List.Pairwise.nil
  | cons x r =>
    obtain ⟨i1, i2⟩ := rising_pw r x h
    exact List.Pairwise.cons i1 i2
theorem sorted_is {is ys : List Str} (h : AscS is) (pm : ys.Perm is) (hs : sortedS ys = true) : ys = is :=
  sorted_same (r := fun a b => ltB a b) pm (fun a _ b _ h1 h2 => ltB_anti h1 h2) (sortedS_pw hs) (h.imp fun {a b} q => ltB_asym a b q)

/-! ## lots_of -/
abbrev OkN (is : List Str) : Prop := ∀ i ∈ is, PyData.canLay0 (.str i) = true
theorem keysD_strs : ∀ {l : List Str}, OkN l → keysD (l.map PyData.str) = true
  | [], _ => rfl
  | x :: l, h => by
    rw [List.map_cons, keysD, keyD, h x List.mem_cons_self, keysD_strs fun i hi => h i (List.mem_cons_of_mem _ hi)]
    rfl
theorem depth_strs : ∀ l : List Str, PyData.depthAll (l.map PyData.str) ≤ 1
  | [] => by simp [PyData.depthAll]
  | x :: l => by
    have := depth_strs l
    simp only [List.map_cons, PyData.depthAll, PyData.depth]
    omega
theorem lot_key {l : List Str} (h : OkN l) : KeyT (lotT l) := ⟨rfl, by rw [lotT, keyD]; exact keysD_strs h, by
  have := depth_strs l
  rw [lotT, PyData.depth]
  omega⟩
theorem alike_strsAll : ∀ l k : List Str, PySem.W.alikeAll (l.map PyData.str) (k.map PyData.str) = true
  | [], _ => by simp [PySem.W.alikeAll]
  | _ :: _, [] => by simp [PySem.W.alikeAll]
  | x :: l, y :: k => by
    have := alike_strsAll l k
    simp [PySem.W.alikeAll, PySem.W.alike, this]
theorem lots_alike (ls : List (List Str)) : PySem.W.AllAlike (ls.map lotT) := PySem.W.AllAlike.of fun l k => by
  show PySem.W.alike (.tuple _) (.tuple _) = true
  rw [PySem.W.alike]
  exact alike_strsAll l k
def lotsD (is : List Str) (m : Str → Str) : List PyData := is.map fun i => lotT (lotS is m i)
def spLots : Sp := fun vs H Q _ => ∃ p is m, vs = [.ref p] ∧ MkD H p is m ∧ AscS is ∧ is.length ≤ 60 ∧ OkN is ∧
  ∀ y es H', Same H H' → AscTo (lotsD is m) es → Dd H' y (.tuple es) → Q y H'
/-- the lots found so far -/
structure LotsAt (H0 H : Hp) (d : Addr) (m : Str → Str) (cur : List Str) (L : List (Str × Addr)) : Prop where
  at' : H d = some (.dK (kvS (L.map fun q => (q.1, V.ref q.2))))
  n1 : (L.map (·.1)).Nodup
  n2 : (L.map (·.2)).Nodup
  new : ∀ q ∈ L, H0 q.2 = none ∧ q.2 ≠ d
  lst : ∀ q ∈ L, H q.2 = some (.lst ((cur.filter fun i => decide (m i = q.1)).map V.str))
  mem : ∀ c, c ∈ L.map (·.1) ↔ ∃ i ∈ cur, m i = c
theorem fst_kv (L : List (Str × Addr)) : (L.map fun q => (q.1, V.ref q.2)).map (·.1) = L.map (·.1) := by
  rw [List.map_map]
  rfl
theorem nd_inj {α β : Type} {f : α → β} : ∀ {L : List α}, (L.map f).Nodup → ∀ {x y : α}, x ∈ L → y ∈ L → f x = f y → x = y
  | z :: L, h, x, y, hx, hy, e => by
    rw [List.map_cons, List.nodup_cons] at h
    rcases List.mem_cons.mp hx with ex | hx
    · rcases List.mem_cons.mp hy with ey | hy
      · rw [ex, ey]
      · rw [ex] at e
        exact absurd (List.mem_map.mpr ⟨y, hy, e.symm⟩) h.1
    · rcases List.mem_cons.mp hy with ey | hy
      · rw [ey] at e
        exact absurd (List.mem_map.mpr ⟨x, hx, e⟩) h.1
      · exact nd_inj h.2 hx hy e
section
variable {H0 H : Hp} {d : Addr} {m : Str → Str} {cur : List Str} {L : List (Str × Addr)}
theorem LotsAt.len (g : LotsAt H0 H d m cur L) : L.length ≤ cur.length := by
  have h := g.n1.length_le_of_subset (l₂ := cur.map m) fun c hc => by
    obtain ⟨i, hi, e⟩ := (g.mem c).mp hc
    exact List.mem_map.mpr ⟨i, hi, e⟩
  rw [List.length_map, List.length_map] at h
  exact h
theorem LotsAt.old (g : LotsAt H0 H d m cur L) {k : Str} {a : Addr} (h : (m k, a) ∈ L) : LotsAt H0 (upd H a (.lst ((cur.filter fun i => decide (m i = m k)).map V.str ++ [V.str k]))) d m (cur ++ [k]) L := by
  refine ⟨(upd_ne (g.new _ h).2.symm).trans g.at', g.n1, g.n2, g.new, fun q hq => ?_, fun c => ?_⟩
  · by_cases e : q.2 = a
    · have eq : q = (m k, a) := nd_inj g.n2 hq h e
      subst eq
      rw [upd_same, List.filter_append, List.filter_cons, if_pos (by simp), List.map_append]
      rfl
    · have ne : ¬ m k = q.1 := fun z => e (by rw [nd_inj g.n1 hq h z.symm])
      rw [upd_ne e, List.filter_append, List.filter_cons, if_neg (by simp [ne])]
      simpa using g.lst q hq
  · rw [g.mem]
    constructor
    · rintro ⟨i, hi, e⟩
      exact ⟨i, List.mem_append_left _ hi, e⟩
    · rintro ⟨i, hi, e⟩
      rcases List.mem_append.mp hi with hi | hi
      · exact ⟨i, hi, e⟩
      · rw [List.mem_singleton.mp hi] at e
        exact (g.mem c).mp (e ▸ List.mem_map.mpr ⟨_, h, rfl⟩)
theorem LotsAt.put (g : LotsAt H0 H d m cur L) {k : Str} {z : Addr} (hc : m k ∉ L.map (·.1)) (nz : H0 z = none) (hzd : z ≠ d) (hzL : ∀ q ∈ L, q.2 ≠ z) :
    LotsAt H0 (upd (upd H d (.dK (putK (kvS (L.map fun q => (q.1, V.ref q.2))) (Sum.inr (m k)) (.ref z)))) z (.lst ([] ++ [V.str k]))) d m (cur ++ [k]) (L ++ [(m k, z)]) := by
  refine ⟨?_, ?_, ?_, fun q hq => ?_, fun q hq => ?_, fun c => ?_⟩
  · rw [upd_ne hzd.symm, upd_same, put_kvS (by rw [fst_kv]; exact hc), List.map_append]
    rfl
  · rw [List.map_append, List.nodup_append]
    exact ⟨g.n1, by simp, fun a ha b hb e => hc (by rw [List.map_singleton, List.mem_singleton] at hb; have e2 : a = m k := e.trans hb; rw [← e2]; exact ha)⟩
  · rw [List.map_append, List.nodup_append]
    refine ⟨g.n2, by simp, fun a ha b hb e => ?_⟩
    obtain ⟨q, hq, rfl⟩ := List.mem_map.mp ha
    rw [List.map_singleton, List.mem_singleton] at hb
    exact hzL q hq (e.trans hb)
  · rcases List.mem_append.mp hq with hq | hq
    · exact g.new q hq
    · rw [List.mem_singleton.mp hq]
      exact ⟨nz, hzd⟩
  · rcases List.mem_append.mp hq with hq | hq
    · have ne : ¬ m k = q.1 := fun e => hc (e ▸ List.mem_map.mpr ⟨q, hq, rfl⟩)
      rw [upd_ne (hzL q hq), upd_ne (g.new q hq).2, List.filter_append, List.filter_cons, if_neg (by simp [ne])]
      simpa using g.lst q hq
    · rw [List.mem_singleton.mp hq]
      have none : cur.filter (fun i => decide (m i = m k)) = [] := List.filter_eq_nil_iff.mpr fun i hi e => hc ((g.mem _).mpr ⟨i, hi, of_decide_eq_true e⟩)
      show upd _ z _ z = some (.lst ((cur ++ [k]).filter (fun i => decide (m i = m k)) |>.map V.str))
      rw [upd_same, List.filter_append, none, List.filter_cons, if_pos (by simp)]
      rfl
  · rw [List.map_append, List.mem_append, g.mem]
    constructor
    · rintro (⟨i, hi, e⟩ | h)
      · exact ⟨i, List.mem_append_left _ hi, e⟩
      · rw [List.map_singleton, List.mem_singleton] at h
        exact ⟨k, List.mem_append_right _ (List.mem_singleton.mpr rfl), h.symm⟩
    · rintro ⟨i, hi, e⟩
      rcases List.mem_append.mp hi with hi | hi
      · exact .inl ⟨i, hi, e⟩
      · rw [List.mem_singleton.mp hi] at e
        exact .inr (by rw [← e]; simp)
theorem LotsAt.mono (g : LotsAt H0 H d m cur L) {H' : Hp} (s : Same H H') : LotsAt H0 H' d m cur L := ⟨s _ _ g.at', g.n1, g.n2, g.new, fun q hq => s _ _ (g.lst q hq), g.mem⟩
end
section
variable {P : Program} {w : World} {K : PySem.W.Frag} {mg : Str → Option Value} {base : Heap} {f : Addr} {fd : FuncData}
theorem scLots : FnScope ["marks", "lots", "island", "lot"] ["marks"] (defScope (topS 6)) := ⟨rfl, rfl, rfl, by decide +kernel, rfl, by decide +kernel, by decide +kernel⟩
theorem ok_lots (B : Bts mg) (gA : Has P w K mg base 1 "ascending" ["values"] (spAscending K)) (F : Fun K "lots_of" "lots_of" (topS 6) f fd) : FnOk P w K mg base CX0 2 f fd ["marks"] spLots := by
  refine F.ok scLots (fun vs H Q E h => ?_) (fun cdv A outer s H vs Q E hr h => ?_)
  · obtain ⟨p, is, m, rfl, _⟩ := h
    rfl
  obtain ⟨p, is, m, rfl, hm, ha, hl, hok, q⟩ := h
  have hu := hu_of hr
  refine ⟨_, pss_cons (ps_set (i := 1) scLots.nd rfl (Or.inl rfl) pe_dnewK)
    (pss_cons (ps_for PassesOwn.never rfl (pi_list (pe_callB (call_sortedD rfl) (by rfl) B.sorted (by decide +kernel) (pa_cons (pv 0) pa_nil))) (pg_name (i := 2) scLots.nd rfl (Or.inl rfl))
      (pss_one (ps_expr (pe_bm PySem.F.plainAttrs_list PySem.F.slot_list_append PySem.F.type_list_append mt_append (pe_dsetd (pv 1) (pe_dget hu (pv 0) (pv 2) (fun _ _ => rfl)) (pe_lst pa_nil) ⟨rfl, rfl, rfl, rfl⟩) (pa_cons (pv 2) pa_nil)))))
    (pss_one (ps_ret (pe_has gA hr (pa_cons (pe_lock (pe_lc (own := [("lot", 3)]) (g := gName 3) rfl scLots.nd (pi_values (pv 1)) (blkOk_by (own := [("lot", 3)]) (N := ["marks", "lots", "island", "lot"]) (sc := defScope (topS 6)) (by decide +kernel))
      (fun _ _ _ _ _ => pg_name (i := 3) scLots.nd rfl (Or.inl rfl)) (fun _ _ _ _ _ => pts_nil)
      (fun _ _ _ _ _ => show PE _ _ (tCB (fun xs H Q => ∃ p ys, xs = [V.ref p] ∧ ((SqL K H p ys ∧ ∀ l, H l = none → Q (.ref l) (upd H l (.tup ys))) ∨ (SqT K H p ys ∧ Q (.ref p) H))) (tCons (tVar 3) tNil)) from pe_callTy call_tuple_of (by rfl) B.tuple (by decide +kernel) (pa_cons (pv 3) pa_nil)))) pa_nil))))), ?_⟩
  intro d nd
  have s1 := same_new nd (.dK [])
  have e1 : upd H d (.dK []) d = some (.dK []) := upd_same
  generalize upd H d (.dK []) = H1 at s1 e1 ⊢
  have hm1 : MkD H1 p is m := s1 _ _ hm
  have ek : (kvS (mkvS is m)).map (·.1) = is.map Sum.inr := by
    unfold kvS mkvS
    rw [List.map_map, List.map_map]
    rfl
  refine ⟨_, rfl, p, _, is, rfl, .of hm1, ek, by omega, fun ys L0 pm hs nL0 => ?_⟩
  have ey := sorted_is ha pm hs
  subst ey
  have s2 := s1.trans (same_new nL0 (.lst (ys.map V.str)))
  have s12 := same_new nL0 (.lst (ys.map V.str))
  have e2 : upd H1 L0 (.lst (ys.map V.str)) L0 = some (.lst (ys.map V.str)) := upd_same
  have ed2 := s12 _ _ e1
  have nL : H L0 = none := s1.free nL0
  generalize upd H1 L0 (.lst (ys.map V.str)) = H2 at s2 s12 e2 ed2 ⊢
  have hdL : d ≠ L0 := fun e => by
    rw [e] at ed2
    rw [ed2] at e2
    cases e2
  refine ⟨L0, rfl, ⟨_, .of e2⟩, ?_⟩
  refine for_it (walk_list (K := K) (a := L0) (xs := ys.map V.str)) (fun i σ H3 => ∃ t L, σ = [some (.ref p), some (.ref d), t, none] ∧ Same H H3 ∧ H3 L0 = some (.lst (ys.map V.str)) ∧ (∀ q ∈ L, q.2 ≠ L0) ∧ LotsAt H H3 d m (ys.take i) L)
    ⟨none, [], rfl, s2, e2, (fun q hq => by cases hq), ⟨ed2, List.Pairwise.nil, List.Pairwise.nil, (fun q hq => by cases hq), (fun q hq => by cases hq), fun c => ⟨(fun h => by cases h), (fun ⟨i, hi, _⟩ => by cases hi)⟩⟩⟩ (fun i σ H3 _ hP => ?_) (fun i x σ H3 H4 hi hP hY => ?_) (fun σ H3 hP => ?_)
  · obtain ⟨t, L, _, _, h, _⟩ := hP
    exact .of h
  · obtain ⟨rfl, hx⟩ := hY
    obtain ⟨t, L, rfl, sm, hL0, hne, g⟩ := hP
    obtain ⟨k, hk, rfl⟩ : ∃ k, ys[i]? = some k ∧ x = .str k := by
      rw [List.getElem?_map] at hx
      cases e : ys[i]? with
      | none => rw [e] at hx; cases hx
      | some k =>
        rw [e] at hx
        exact ⟨k, rfl, (Option.some.inj hx).symm⟩
    have hkin := List.mem_of_getElem? hk
    have enext : ys.take (i + 1) = ys.take i ++ [k] := by
      rw [List.take_add_one, hk]
      rfl
    have gd : DGet H4 p (.str k) (some (.str (m k))) := MkD.get (show MkD H4 p ys m from sm _ _ hm) ha.nd hkin
    refine ⟨_, rfl, d, rfl, .inl ⟨_, .of g.at'⟩, _, rfl, _, rfl, p, _, rfl, gd, Nat.zero_le _, fun z nz => ?_⟩
    have s4 := same_new nz (.lst [])
    have ez : upd H4 z (.lst []) z = some (.lst []) := upd_same
    generalize upd H4 z (.lst []) = H5 at s4 ez ⊢
    have g5 := g.mono s4
    have zd : z ≠ d := fun e => by
      rw [e, g.at'] at nz
      cases nz
    have zL0 : z ≠ L0 := fun e => by
      rw [e, hL0] at nz
      cases nz
    have zL : ∀ q ∈ L, q.2 ≠ z := fun q hq e => by
      rw [← e, g.lst q hq] at nz
      cases nz
    have lL := g.len
    rw [List.length_take] at lL
    refine ⟨_, Sum.inr (m k), g5.at', rfl, ?_, fun v hv => ?_, fun hv => ?_⟩
    · unfold kvS
      rw [List.length_map, List.length_map]
      exact small1000 (by omega)
    · have hc : m k ∈ (L.map fun q => (q.1, V.ref q.2)).map (·.1) := Classical.byContradiction fun hc => by
        rw [valV_kvS hc] at hv
        cases hv
      rw [fst_kv] at hc
      obtain ⟨⟨c, a⟩, hq, e⟩ := List.mem_map.mp hc
      have e : c = m k := e
      subst e
      have hv2 := valV_kvS_at (kv := L.map fun q => (q.1, V.ref q.2)) (by rw [fst_kv]; exact g.n1) (List.mem_map.mpr ⟨_, hq, rfl⟩)
      rw [hv2] at hv
      cases hv
      have ha5 := g5.lst _ hq
      have hnew := g.new _ hq
      refine ⟨.inl ⟨rfl, _, .of ha5⟩, _, rfl, a, _, _, rfl, rfl, ha5, ?_, _, L, rfl, ?_, ?_, hne, ?_⟩
      · rw [List.length_map]
        refine small1000 (Nat.le_trans (List.length_filter_le _ _) ?_)
        rw [List.length_take]
        omega
      · exact same_upd (sm.trans s4) hnew.1 _
      · rw [upd_ne (hne _ hq).symm]
        exact s4 _ _ hL0
      · rw [enext]
        exact g5.old hq
    · have hc : m k ∉ L.map (·.1) := fun hc => by
        obtain ⟨⟨c, a⟩, hq, e⟩ := List.mem_map.mp hc
        have e : c = m k := e
        subst e
        have hv2 := valV_kvS_at (kv := L.map fun q => (q.1, V.ref q.2)) (by rw [fst_kv]; exact g.n1) (List.mem_map.mpr ⟨_, hq, rfl⟩)
        rw [hv2] at hv
        cases hv
      have ez2 : upd H5 d (.dK (putK (kvS (L.map fun q => (q.1, V.ref q.2))) (Sum.inr (m k)) (.ref z))) z = some (.lst []) := (upd_ne zd).trans ez
      refine ⟨.inl ⟨rfl, _, .of ez2⟩, _, rfl, z, _, _, rfl, rfl, ez2, (by show 0 < sizeLine; decide), _, L ++ [(m k, z)], rfl, ?_, ?_, fun q hq => ?_, ?_⟩
      · refine same_upd (same_upd (sm.trans s4) nd _) ((sm.free nz)) _
      · rw [upd_ne zL0.symm, upd_ne hdL.symm]
        exact s4 _ _ hL0
      · rcases List.mem_append.mp hq with hq | hq
        · exact hne q hq
        · rw [List.mem_singleton.mp hq]
          exact zL0
      · rw [enext]
        exact g5.put hc (sm.free nz) zd zL
  · obtain ⟨t, L, rfl, sm, hL0, hne, g⟩ := hP
    rw [List.take_of_length_le (by rw [List.length_map]; exact Nat.le_refl _)] at g
    have lL := g.len
    refine ⟨d, _, g.at', trivial, fun od => ?_⟩
    have el : upd H3 d (.frz od (.dK (kvS (L.map fun q => (q.1, V.ref q.2))))) d = some (.frz od (.dK (kvS (L.map fun q => (q.1, V.ref q.2))))) := upd_same
    have ll : ∀ q ∈ L, upd H3 d (.frz od (.dK (kvS (L.map fun q => (q.1, V.ref q.2))))) q.2 = some (.lst ((ys.filter fun i => decide (m i = q.1)).map V.str)) := fun q hq => (upd_ne (g.new q hq).2).trans (g.lst q hq)
    have sl : ∀ b, b ≠ d → upd H3 d (.frz od (.dK (kvS (L.map fun q => (q.1, V.ref q.2))))) b = H3 b := fun b hb => upd_ne hb
    generalize hH4 : upd H3 d (.frz od (.dK (kvS (L.map fun q => (q.1, V.ref q.2))))) = H4 at el ll sl ⊢
    refine ⟨_, rfl, d, od, _, rfl, el, fun D nD => ?_⟩
    have ex : (kvS (L.map fun q => (q.1, V.ref q.2))).map (·.2) = L.map fun q => V.ref q.2 := by
      unfold kvS
      rw [List.map_map, List.map_map]
      rfl
    have lx : (kvS (L.map fun q => (q.1, V.ref q.2))).length = L.length := by
      unfold kvS
      rw [List.length_map, List.length_map]
    have hDd : D ≠ d := fun e => by
      rw [e, el] at nD
      cases nD
    refine lc_it (walk_values (d := d) (o := od) (kvs := kvS (L.map fun q => (q.1, V.ref q.2)))) (fun i H5 => Same H4 H5 ∧ ∃ zs, H5 D = some (.lst zs) ∧ zs.length ≤ i ∧ DdAll (hide d (hide D H5)) zs ((L.take i).map fun q => lotT (ys.filter fun i => decide (m i = q.1))))
      ⟨same_new nD _, [], upd_same, Nat.zero_le _, .nil⟩ (fun i H5 _ hP => hP.1 _ _ el) (fun i x H5 H6 hi hP hY => ?_) (fun H5 hP => ?_)
    · obtain ⟨rfl, kk, hx⟩ := hY
      obtain ⟨s5, zs, hD, hz, hzs⟩ := hP
      obtain ⟨q, hq, rfl⟩ : ∃ q, L[i]? = some q ∧ x = .ref q.2 := by
        have h := congrArg (Option.map (·.2)) hx
        rw [← List.getElem?_map, ex, List.getElem?_map] at h
        cases e : L[i]? with
        | none => rw [e] at h; cases h
        | some q =>
          rw [e] at h
          exact ⟨q, rfl, (Option.some.inj h).symm⟩
      have hqL := List.mem_of_getElem? hq
      have enx : (L.take (i + 1)).map (fun q => lotT (ys.filter fun i => decide (m i = q.1))) = (L.take i).map (fun q => lotT (ys.filter fun i => decide (m i = q.1))) ++ [lotT (ys.filter fun i => decide (m i = q.1))] := by
        rw [List.take_add_one, hq, List.map_append]
        rfl
      refine ⟨rfl, yes ?_⟩
      rw [if_pos rfl]
      refine ⟨_, rfl, q.2, _, rfl, .inl ⟨.of (s5 _ _ (ll q hqL)), fun t nt => ?_⟩⟩
      have s6 := same_new nt (.tup ((ys.filter fun i => decide (m i = q.1)).map V.str))
      have et : upd H6 t (.tup ((ys.filter fun i => decide (m i = q.1)).map V.str)) t = some (.tup ((ys.filter fun i => decide (m i = q.1)).map V.str)) := upd_same
      have tD : t ≠ D := fun e => by
        rw [e, hD] at nt
        cases nt
      have td : t ≠ d := fun e => by
        rw [e, s5 _ _ el] at nt
        cases nt
      generalize upd H6 t (.tup ((ys.filter fun i => decide (m i = q.1)).map V.str)) = H7 at s6 et ⊢
      refine ⟨zs, s6 _ _ hD, small1000 (by omega), same_upd (s5.trans s6) nD _, zs ++ [.ref t], upd_same, ?_, ?_⟩
      · rw [List.length_append, List.length_singleton]
        omega
      · rw [enx, hide_upd]
        exact (hzs.mono (hide_mono (hide_mono s6))).append (.cons (.tup (hide_in td (hide_in tD et)) (ddAll_strs _)) .nil)
    · obtain ⟨s5, zs, hD, hz, hzs⟩ := hP
      rw [lx, List.take_length] at hzs
      refine ⟨s5 _ _ el, ?_⟩
      have hD2 : upd H5 d (.dK (kvS (L.map fun q => (q.1, V.ref q.2)))) D = some (.lst zs) := (upd_ne hDd).trans hD
      have hz2 : DdAll (upd H5 d (.dK (kvS (L.map fun q => (q.1, V.ref q.2))))) zs (L.map fun q => lotT (ys.filter fun i => decide (m i = q.1))) := by
        refine hzs.mono fun b o e => ?_
        have hb : b ≠ d := fun z => by
          rw [z, hide_at] at e
          cases e
        rw [upd_ne hb]
        exact hide_sub _ _ (hide_sub _ _ e)
      have s8 : Same H (upd H5 d (.dK (kvS (L.map fun q => (q.1, V.ref q.2))))) := fun b o e => by
        have hb : b ≠ d := fun z => by
          rw [z] at e
          rw [e] at nd
          cases nd
        rw [upd_ne hb]
        exact s5 _ _ ((sl b hb).trans (sm _ _ e))
      generalize upd H5 d (.dK (kvS (L.map fun q => (q.1, V.ref q.2)))) = H8 at hD2 hz2 s8 ⊢
      have eds : (L.map fun q => lotT (ys.filter fun i => decide (m i = q.1))) = (L.map fun q => ys.filter fun i => decide (m i = q.1)).map lotT := by
        rw [List.map_map]
        rfl
      have inl : ∀ q ∈ L, ∃ i ∈ ys, m i = q.1 := fun q hq => (g.mem q.1).mp (List.mem_map.mpr ⟨q, hq, rfl⟩)
      refine ⟨D, zs, _, rfl, .inl (.of hD2), .keys hz2 (fun e he => ?_) ?_ (.inl fun e he => ?_), ?_, fun H9 p9 ws es s9 asc hws _ hp9 _ => ?_⟩
      · obtain ⟨q, hq, rfl⟩ := List.mem_map.mp he
        exact lot_key fun i hi => hok i (List.mem_filter.mp hi).1
      · rw [eds]
        exact lots_alike _
      · obtain ⟨q, hq, rfl⟩ := List.mem_map.mp he
        obtain ⟨i, hi, e⟩ := inl q hq
        have hin : i ∈ ys.filter fun i => decide (m i = q.1) := List.mem_filter.mpr ⟨hi, decide_eq_true e⟩
        cases el : ys.filter fun i => decide (m i = q.1) with
        | nil => rw [el] at hin; cases hin
        | cons x r => exact ⟨.str x, r.map PyData.str, rfl⟩
      · rw [List.length_map]
        omega
      · refine q _ es H9 (s8.trans s9) (asc.congr fun e => ?_) (.tup hp9 hws)
        unfold lotsD
        simp only [List.mem_map]
        constructor
        · rintro ⟨q, hq, rfl⟩
          obtain ⟨i, hi, e⟩ := inl q hq
          exact ⟨i, hi, by unfold lotS; rw [e]⟩
        · rintro ⟨i, hi, rfl⟩
          obtain ⟨q, hq, e⟩ := List.mem_map.mp ((g.mem (m i)).mpr ⟨i, hi, rfl⟩)
          exact ⟨q, hq, by unfold lotS; rw [e]⟩
end
end Lf

set_option maxHeartbeats 4000000
namespace Lf
open PySem PySem.Spec PyProof.Rows L2

def pairT (p : Str × Str) : PyData := .tuple [.str p.1, .str p.2]
def spFrom : Sp := fun vs H Q _ => ∃ v u is ps, vs = [v, u] ∧ SqD H v (is.map V.str) ∧ AscS is ∧ is.length ≤ 60 ∧ OkN is ∧ PqsD H u ps ∧ (∀ p ∈ ps, p.1 ∈ is ∧ p.2 ∈ is) ∧
  ∀ y es m H', Same H H' → Fine ps m → AscTo (lotsD is m) es → Dd H' y (.tuple es) → Q y H'
section
variable {P : Program} {w : World} {K : PySem.W.Frag} {mg : Str → Option Value} {base : Heap} {f : Addr} {fd : FuncData}
theorem scFrom : FnScope ["islands", "pairs"] ["islands", "pairs"] (defScope (topS 13)) := ⟨rfl, rfl, rfl, by decide +kernel, rfl, by decide +kernel, by decide +kernel⟩
theorem ok_from (gA : Has P w K mg base 1 "marks_alone" ["islands"] (spAlone K)) (gM : Has P w K mg base 2 "all_merged" ["marks", "pairs"] spAll) (gL : Has P w K mg base 2 "lots_of" ["marks"] spLots)
    (F : Fun K "lots_from" "lots_from" (topS 13) f fd) : FnOk P w K mg base CX0 3 f fd ["islands", "pairs"] spFrom := by
  refine F.ok scFrom (fun vs H Q E h => ?_) (fun cdv A outer s H vs Q E hr h => ?_)
  · obtain ⟨v, u, is, ps, rfl, _⟩ := h
    rfl
  obtain ⟨v, u, is, ps, rfl, hv, ha, hl, hok, hu, hin, q⟩ := h
  refine ⟨_, pss_one (ps_ret (pe_has gL hr (pa_cons (pe_has gM hr (pa_cons (pe_has gA (hr.mono (by decide)) (pa_cons (pv 0) pa_nil)) (pa_cons (pv 1) pa_nil))) pa_nil))), ?_⟩
  refine ⟨_, rfl, v, is, rfl, hv, ha.nd, hl, fun p H1 s1 m1 => ⟨_, rfl, p, u, is, _, [], ps, rfl, m1, ha.nd, hl, hu.mono s1, hin, Fine.start, fun p2 H2 m s2 m2 hF => ?_⟩⟩
  exact ⟨p2, is, m, rfl, m2, ha, hl, hok, fun y es H3 s3 asc hd => q y es m H3 (s1.trans (s2.trans s3)) hF asc hd⟩

/-! ## pairs_of -/
def spPairs : Sp := fun vs H Q _ => ∃ p ks is m, vs = [.ref p] ∧ MkD H p ks m ∧ ks.Perm is ∧ AscS is ∧ is.length ≤ 60 ∧
  ∀ y H', Same H H' → Dd H' y (.tuple ((overL ltB is fun q => decide (m q.1 = m q.2)).map pairT)) → Q y H'
abbrev nPairs : List Str := ["marks", "islands", "one", "other"]
theorem scPairs : FnScope nPairs ["marks"] (defScope (topS 8)) := ⟨rfl, rfl, rfl, by decide +kernel, rfl, by decide +kernel, by decide +kernel⟩
def rowP (m : Str → Str) (is : List Str) (a : Str) (k : Nat) : List (Str × Str) := ((is.take k).filter fun b => ltB a b && decide (m a = m b)).map fun b => (a, b)
def rowsP (m : Str → Str) (is : List Str) (i : Nat) : List (Str × Str) := (is.take i).flatMap fun a => rowP m is a is.length
theorem rowsP_all (m : Str → Str) (is : List Str) : overL ltB is (fun q => decide (m q.1 = m q.2)) = rowsP m is is.length := by
  unfold rowsP rowP overL
  rw [List.take_length]
theorem rowsP_next {m : Str → Str} {is : List Str} {i : Nat} {a : Str} (h : is[i]? = some a) : rowsP m is (i + 1) = rowsP m is i ++ rowP m is a is.length := by
  unfold rowsP
  rw [List.take_add_one, h, List.flatMap_append]
  simp
theorem rowP_next {m : Str → Str} {is : List Str} {a b : Str} {k : Nat} (h : is[k]? = some b) : rowP m is a (k + 1) = rowP m is a k ++ (if (ltB a b && decide (m a = m b)) = true then [(a, b)] else []) := by
  unfold rowP
  rw [List.take_add_one, h, List.filter_append, List.map_append]
  congr 1
  show (List.filter _ [b]).map _ = _
  rw [List.filter_cons]
  split <;> rfl
theorem ok_pairsof (B : Bts mg) (F : Fun K "pairs_of" "pairs_of" (topS 8) f fd) : FnOk P w K mg base CX0 1 f fd ["marks"] spPairs := by
  refine F.ok scPairs (fun vs H Q E h => ?_) (fun cdv A outer s H vs Q E hr h => ?_)
  · obtain ⟨p, ks, is, m, rfl, _⟩ := h
    rfl
  obtain ⟨p, ks, is, m, rfl, hm, hp, ha, hl, q⟩ := h
  have hu := hu_of hr
  refine ⟨_, pss_cons (ps_set (i := 1) scPairs.nd rfl (Or.inr rfl) (pe_callB (call_sortedD rfl) (by rfl) B.sorted (by decide +kernel) (pa_cons (pv 0) pa_nil)))
    (pss_one (ps_ret (pe_callTy call_tuple_of (by rfl) B.tuple (by decide +kernel) (pa_cons
      (pe_lc2 (own := [("one", 2), ("other", 3)]) (vs1 := [3]) (g := gName 2) (g1 := gName 3) rfl scPairs.nd (pi_list (pv 1)) (blkOk_by (own := [("one", 2), ("other", 3)]) (N := nPairs) (sc := defScope (topS 8)) (by decide +kernel)) (by decide)
        (fun _ _ _ _ _ => pg_name (i := 2) scPairs.nd rfl (Or.inl rfl)) (fun _ _ _ _ _ => pts_nil) (fun _ _ _ _ _ => show PI _ _ _ (iList K (tVar 1)) from pi_list (pv 1)) (fun _ _ _ _ _ => pg_name (i := 3) scPairs.nd rfl (Or.inl rfl))
        (fun _ _ _ _ _ => pts_one (PW.pt (pw_and (pt_cmpR op_lt_str (pv 2) (pv 3) (nomark _)) (pw_and1 (pt_cmpR op_eq (pe_dget hu (pv 0) (pv 2) (fun _ _ => rfl)) (pe_dget hu (pv 0) (pv 3) (fun _ _ => rfl)) (nomark _))))))
        (fun _ _ _ _ _ => pe_tup (pa_cons (pv 2) (pa_cons (pv 3) pa_nil)))) pa_nil)))), ?_⟩
  have ek : (kvS (mkvS ks m)).map (·.1) = ks.map Sum.inr := by
    unfold kvS mkvS
    rw [List.map_map, List.map_map]
    rfl
  have knd : ks.Nodup := hp.nodup_iff.mpr ha.nd
  refine ⟨_, rfl, p, _, ks, rfl, .of hm, ek, by rw [hp.length_eq]; omega, fun ys L pm hs nL => ?_⟩
  have ey := sorted_is ha (pm.trans hp) hs
  subst ey
  have s1 := same_new nL (.lst (ys.map V.str))
  have e1 : upd H L (.lst (ys.map V.str)) L = some (.lst (ys.map V.str)) := upd_same
  have hm1 : MkD (upd H L (.lst (ys.map V.str))) p ks m := s1 _ _ hm
  generalize upd H L (.lst (ys.map V.str)) = H1 at s1 e1 hm1 ⊢
  refine ⟨_, rfl, L, rfl, ⟨_, .of e1⟩, fun D nD => ?_⟩
  have hlen : (ys.map V.str).length = ys.length := List.length_map _
  have strAt : ∀ {i : Nat} {x : V}, (ys.map V.str)[i]? = some x → ∃ k, ys[i]? = some k ∧ x = .str k := by
    intro i x h
    rw [List.getElem?_map] at h
    cases e : ys[i]? with
    | none => rw [e] at h; cases h
    | some k =>
      rw [e] at h
      exact ⟨k, rfl, (Option.some.inj h).symm⟩
  refine ⟨fun i k H2 => k = ys.length - i ∧ i ≤ ys.length ∧ Same H1 H2 ∧ ∃ zs, H2 D = some (.lst zs) ∧ zs.length ≤ i * 60 ∧ DdAll (hide D H2) zs ((rowsP m ys i).map pairT), ⟨ys.length, by simp, Nat.zero_le _, same_new nD _, [], upd_same, Nat.zero_le _, .nil⟩, ?_⟩
  rintro i k H2 ⟨rfl, hi, s2, zs, hD, hz, hzs⟩
  by_cases hlt : i < ys.length
  · have hi2 : i < (ys.map V.str).length := by rw [hlen]; exact hlt
    refine .inr ⟨(walk_list (K := K)).goes i H2 hi2 (.of (s2 _ _ e1)), fun H3 => i + 1 ≤ ys.length ∧ Same H1 H3 ∧ ∃ zs, H3 D = some (.lst zs) ∧ zs.length ≤ (i + 1) * 60 ∧ DdAll (hide D H3) zs ((rowsP m ys (i + 1)).map pairT), fun H' p' => ⟨ys.length - (i + 1), by omega, rfl, p'⟩, fun x H' y => ?_⟩
    obtain ⟨rfl, hxi⟩ := (walk_list (K := K)).yields i H2 x H' hi2 (.of (s2 _ _ e1)) y
    obtain ⟨a, hai, rfl⟩ := strAt hxi
    have ain : a ∈ ks := hp.mem_iff.mpr (List.mem_of_getElem? hai)
    refine ⟨rfl, yes ?_⟩
    rw [if_pos rfl]
    refine ⟨_, rfl, L, rfl, ⟨_, .of (s2 _ _ e1)⟩, ?_⟩
    refine ⟨fun j k H4 => k = ys.length - j ∧ j ≤ ys.length ∧ Same H1 H4 ∧ ∃ zs, H4 D = some (.lst zs) ∧ zs.length ≤ i * 60 + j ∧ DdAll (hide D H4) zs ((rowsP m ys i ++ rowP m ys a j).map pairT), ⟨ys.length, by simp, Nat.zero_le _, s2, zs, hD, by omega, ?_⟩, ?_⟩
    · have : rowP m ys a 0 = [] := rfl
      rw [this, List.append_nil]
      exact hzs
    rintro j k H4 ⟨rfl, hj, s4, zs4, hD4, hz4, hzs4⟩
    by_cases hjt : j < ys.length
    · have hj2 : j < (ys.map V.str).length := by rw [hlen]; exact hjt
      refine .inr ⟨(walk_list (K := K)).goes j H4 hj2 (.of (s4 _ _ e1)), fun H3 => j + 1 ≤ ys.length ∧ Same H1 H3 ∧ ∃ zs, H3 D = some (.lst zs) ∧ zs.length ≤ i * 60 + (j + 1) ∧ DdAll (hide D H3) zs ((rowsP m ys i ++ rowP m ys a (j + 1)).map pairT), fun H' p' => ⟨ys.length - (j + 1), by omega, rfl, p'⟩, fun x H' y => ?_⟩
      obtain ⟨rfl, hxj⟩ := (walk_list (K := K)).yields j H4 x H' hj2 (.of (s4 _ _ e1)) y
      obtain ⟨b, hbj, rfl⟩ := strAt hxj
      have bin : b ∈ ks := hp.mem_iff.mpr (List.mem_of_getElem? hbj)
      have enx := rowP_next (m := m) (a := a) hbj
      have keep : (ltB a b && decide (m a = m b)) = false → j + 1 ≤ ys.length ∧ Same H1 H' ∧ ∃ zs, H' D = some (.lst zs) ∧ zs.length ≤ i * 60 + (j + 1) ∧ DdAll (hide D H') zs ((rowsP m ys i ++ rowP m ys a (j + 1)).map pairT) := fun c => by
        rw [c, if_neg (by simp), List.append_nil] at enx
        rw [enx]
        exact ⟨hjt, s4, zs4, hD4, by omega, hzs4⟩
      refine ⟨rfl, _, rfl, _, rfl, _, _, rfl, rfl, _, rfl, ?_⟩
      by_cases c1 : ltB a b = true
      · rw [show decide (a.cps.toList < b.cps.toList) = true from c1]
        refine iteT ⟨_, rfl, _, rfl, p, _, rfl, MkD.get (show MkD H' p ks m from s4 _ _ hm1) knd ain, _, rfl, _, rfl, p, _, rfl, MkD.get (show MkD H' p ks m from s4 _ _ hm1) knd bin, rfl, _, rfl, ?_⟩
        have e3 : decide (V.str (m a) = V.str (m b)) = decide (m a = m b) := decide_eq_decide.mpr ⟨fun h => by injection h, fun h => by rw [h]⟩
        rw [e3]
        by_cases c2 : m a = m b
        · rw [decide_eq_true c2]
          refine iteT ⟨_, rfl, _, rfl, (by show 2 ≤ sizeLine; decide), fun t nt => ?_⟩
          have s6 := same_new nt (.tup [V.str a, V.str b])
          have et : upd H' t (.tup [V.str a, V.str b]) t = some (.tup [V.str a, V.str b]) := upd_same
          have tD : t ≠ D := fun e => by
            rw [e, hD4] at nt
            cases nt
          generalize upd H' t (.tup [V.str a, V.str b]) = H7 at s6 et ⊢
          rw [c1, decide_eq_true c2, if_pos (by rfl)] at enx
          refine ⟨zs4, s6 _ _ hD4, by rw [sizeLine_eq]; omega, hjt, same_upd (s4.trans s6) nD _, zs4 ++ [.ref t], upd_same, ?_, ?_⟩
          · rw [List.length_append, List.length_singleton]
            omega
          · rw [enx, hide_upd, ← List.append_assoc, List.map_append]
            exact (hzs4.mono (hide_mono s6)).append (.cons (.tup (hide_in tD et) (.cons (.str a) (.cons (.str b) .nil))) .nil)
        · rw [decide_eq_false c2]
          refine iteF ?_
          exact keep (by rw [decide_eq_false c2, Bool.and_false])
      · rw [show decide (a.cps.toList < b.cps.toList) = false from Bool.eq_false_iff.mpr c1]
        refine iteF (iteF ?_)
        exact keep (by rw [Bool.eq_false_iff.mpr c1, Bool.false_and])
    · have e : j = ys.length := by omega
      subst e
      refine .inl ⟨?_, hlt, s4, zs4, hD4, by omega, ?_⟩
      · have z := (walk_list (K := K) (a := L) (xs := ys.map V.str)).stops H4 (.of (s4 _ _ e1))
        rw [hlen] at z
        exact z
      · rw [rowsP_next hai]
        exact hzs4
  · have e : i = ys.length := by omega
    subst e
    have z := (walk_list (K := K) (a := L) (xs := ys.map V.str)).stops H2 (.of (s2 _ _ e1))
    rw [hlen] at z
    refine .inl ⟨z, D, zs, rfl, .inl ⟨.of hD, fun t nt => ?_⟩⟩
    refine q _ _ (s1.trans (s2.trans (same_new nt _))) ?_
    rw [rowsP_all]
    exact .tup upd_same ((hzs.mono hide_sub).mono (same_new nt _))

/-! ## pairs_joined -/
def spJoined (k : Nat) : Sp := fun vs H Q _ => ∃ v d ls is n, vs = [v] ∧ Dd H v d ∧ wf n d = true ∧ n + 1 ≤ k ∧ frzD d = .tuple (ls.map lotT) ∧ ls.flatten.Perm is ∧ AscS is ∧ is.length ≤ 60 ∧ (∀ l ∈ ls, l ≠ []) ∧
  ∀ y H', Same H H' → Dd H' y (.tuple ((overL ltB is fun q => decide (markS ls q.1 = markS ls q.2)).map pairT)) → Q y H'
theorem scJoined : FnScope ["parting"] ["parting"] (defScope (topS 12)) := ⟨rfl, rfl, rfl, by decide +kernel, rfl, by decide +kernel, by decide +kernel⟩
theorem ok_joined (gF : Has P w K mg base 4 "frozen" ["value"] (spFrozen 4)) (gM : Has P w K mg base 1 "marks_of" ["parting"] spMarksOf) (gP : Has P w K mg base 1 "pairs_of" ["marks"] spPairs)
    (F : Fun K "pairs_joined" "pairs_joined" (topS 12) f fd) : FnOk P w K mg base CX0 5 f fd ["parting"] (spJoined 4) := by
  refine F.ok scJoined (fun vs H Q E h => ?_) (fun cdv A outer s H vs Q E hr h => ?_)
  · obtain ⟨v, d, ls, is, n, rfl, _⟩ := h
    rfl
  obtain ⟨v, d, ls, is, n, rfl, hd, hw, hn, hf, hp, ha, hl, hne, q⟩ := h
  refine ⟨_, pss_one (ps_ret (pe_has gP (hr.mono (by decide)) (pa_cons (pe_has gM (hr.mono (by decide)) (pa_cons (pe_has gF hr (pa_cons (pv 0) pa_nil)) pa_nil)) pa_nil))), ?_⟩
  refine ⟨_, rfl, v, d, n, rfl, hd, hw, hn, fun y H1 s1 hy => ?_⟩
  rw [hf] at hy
  have fl := hp.length_eq
  refine ⟨y, ls, rfl, hy.mono newer_sub, hp.nodup_iff.mpr ha.nd, hne, by omega, fun p H2 s2 m2 => ⟨p, _, is, _, rfl, m2, hp, ha, hl, fun z H3 s3 hz => q z H3 (s1.trans (s2.trans s3)) hz⟩⟩
end
end Lf

set_option maxHeartbeats 4000000
namespace Lf
open PySem PySem.Spec PyProof.Rows L2

theorem walk_zipT {K : PySem.W.Frag} {a b : Addr} {xs ys : List V} {n : Nat} (hn : n = min xs.length ys.length) : Walk (RZ.ItzT K a b) n (fun H => SqT K H a xs ∧ SqT K H b ys) (YPair (fun i => xs[i]?) (fun i => ys[i]?)) := by
  subst hn
  refine ⟨fun i _ hi q => ?_, fun _ q => ⟨xs, ys, q.1, q.2, by omega⟩, fun i H v H' _ q y => ?_⟩
  · have h1 : i < xs.length := by omega
    have h2 : i < ys.length := by omega
    exact ⟨xs, ys, xs[i], ys[i], q.1, q.2, by simp [h1], by simp [h2]⟩
  · obtain ⟨T, x, z, h1, h2, h3, h4, h5⟩ := y
    exact ⟨T, x, z, h1, h2, h3, h4 xs q.1, h5 ys q.2⟩
/-- two readings of one datum are told equal -/
def spSame (k : Nat) : Sp := fun vs H Q _ => ∃ v1 v2 d n, vs = [v1, v2] ∧ Dd H v1 d ∧ Dd H v2 d ∧ wf n d = true ∧ n + 1 ≤ k ∧ ∀ H', Same H H' → Q (.bl true) H'
/-- [same(x, y) for x, y in zip(xs, ys)] -/
theorem lc_zip {J : It} {G : Hp → Prop} {K : PySem.W.Frag} {xs ys : List V} {ds : List PyData} {te : TE} {vs : List Nat} {i1 i2 : Nat} {σ : L2.St} {H : Hp} {D : Addr} {Qd : Hp → Prop}
    (w : Walk J ds.length G (YPair (fun i => xs[i]?) (fun i => ys[i]?))) (hG : ∀ H2, Same H H2 → G H2) (h1 : DdAll H xs ds) (h2 : DdAll H ys ds) (nD : H D = none) (hlen : ds.length ≤ 1000)
    (hwp : ∀ v u, wipe (((wipe σ vs).set i1 (some v)).set i2 (some u)) vs = wipe σ vs)
    (hs : ∀ v u d H2 (R : VK), d ∈ ds → Dd H2 v d → Dd H2 u d → Same H H2 → (∀ H3, Same H2 H3 → R (.bl true) H3) → te (((wipe σ vs).set i1 (some v)).set i2 (some u)) H2 R)
    (hd : ∀ H2, Same H H2 → H2 D = some (.lst ((List.replicate ds.length true).map V.bl)) → Qd H2) :
    ∃ W : Nat → Nat → Hp → Prop, (∃ m, W 0 m (upd H D (.lst []))) ∧ ∀ i m H, W i m H →
      (J.stop i H ∧ Qd H) ∨ (J.go i H ∧ ∃ Nx : Hp → Prop, (∀ H', Nx H' → ∃ m', m' < m ∧ W (i + 1) m' H') ∧ ∀ x H', J.yld i H x H' → gTup K 2 (gCons (gName i1) (gCons (gName i2) gNil)) x (wipe σ vs) H' fun σ2 H2 => wipe σ2 vs = wipe σ vs ∧ tYes σ2 H2 fun b H3 =>
        if b = true then te σ2 H3 fun y H4 => ∃ acc, H4 D = some (.lst acc) ∧ acc.length < sizeLine ∧ Nx (upd H4 D (.lst (acc ++ [y]))) else Nx H3) := by
  refine lc_it w (fun i H2 => Same H H2 ∧ H2 D = some (.lst ((List.replicate i true).map V.bl))) ⟨same_new nD _, upd_same⟩ (fun i H2 _ hP => hG H2 hP.1) (fun i x H2 H3 hi hP hY => ?_) (fun H2 hP => hd H2 hP.1 hP.2)
  obtain ⟨T, x1, x2, rfl, nT, rfl, e1, e2⟩ := hY
  obtain ⟨sm, hD⟩ := hP
  have hDT : D ≠ T := ne_of_none hD nT
  obtain ⟨d1, g1, k1⟩ := h1.get e1
  obtain ⟨d2, g2, k2⟩ := h2.get e2
  have ed : d2 = d1 := by
    rw [g1] at g2
    exact (Option.some.inj g2).symm
  subst ed
  have s3 : Same H (upd H2 T (.tup [x1, x2])) := sm.trans (same_new nT _)
  refine ⟨T, _, rfl, .of upd_same, rfl, _, _, rfl, _, _, rfl, rfl, hwp x1 x2, yes ?_⟩
  rw [if_pos rfl]
  refine hs x1 x2 d2 _ _ (List.mem_of_getElem? g1) (k1.mono s3) (k2.mono s3) s3 fun H4 s4 => ?_
  refine ⟨_, s4 _ _ ((upd_ne hDT).trans hD), ?_, same_upd (s3.trans s4) nD _, ?_⟩
  · rw [List.length_map, List.length_replicate]
    exact small1000 (by omega)
  · rw [upd_same, List.replicate_succ', List.map_append]
    rfl
section
variable {P : Program} {w : World} {K : PySem.W.Frag} {mg : Str → Option Value} {base : Heap} {f : Addr} {fd : FuncData}
abbrev nSame : List Str := ["_law_got", "_law_due", "_law_like", "_law_mine", "_law_its"]
theorem scSame : FnScope nSame ["_law_got", "_law_due"] (defScope (topS 19)) := ⟨rfl, rfl, rfl, by decide +kernel, rfl, by decide +kernel, by decide +kernel⟩
theorem ok_same {k : Nat} (B : Bts mg) (G : Has P w K mg base k "_law_same" ["_law_got", "_law_due"] (spSame k)) (F : Fun K "_law_same" "_law_same" (topS 19) f fd) : FnOk P w K mg base CX0 (k + 1) f fd ["_law_got", "_law_due"] (spSame (k + 1)) := by
  refine F.ok scSame (fun vs H Q E h => ?_) (fun cdv A outer s H vs Q E hr h => ?_)
  · obtain ⟨v1, v2, d, n, rfl, _⟩ := h
    rfl
  obtain ⟨v1, v2, d, n, rfl, hd1, hd2, hw, hn, q⟩ := h
  refine ⟨_, pss_cons (ps_if (pt_val (pe_callB call_isiT (by rfl) B.isi (by decide +kernel) (pa_cons (pv 1) (pa_cons (pe_tup (pa_cons (pe_bltn (v := .ty "list") (by rfl) B.list (by decide +kernel) rfl) (pa_cons (pe_bltn (v := .ty "tuple") (by rfl) B.tuple (by decide +kernel) rfl) pa_nil))) pa_nil))))
      (pss_cons (ps_if (pt_cmpR op_ne (pe_callB call_isi (by rfl) B.isi (by decide +kernel) (pa_cons (pv 0) (pa_cons (pe_bltn (v := .ty "list") (by rfl) B.list (by decide +kernel) rfl) pa_nil))) (pe_callB call_isi (by rfl) B.isi (by decide +kernel) (pa_cons (pv 1) (pa_cons (pe_bltn (v := .ty "list") (by rfl) B.list (by decide +kernel) rfl) pa_nil))) (nomark _)) (pss_one (ps_ret pe_bl)) pss_nil)
      (pss_cons (ps_if (pt_cmpR op_ne (pe_callB call_isi (by rfl) B.isi (by decide +kernel) (pa_cons (pv 0) (pa_cons (pe_bltn (v := .ty "tuple") (by rfl) B.tuple (by decide +kernel) rfl) pa_nil))) (pe_callB call_isi (by rfl) B.isi (by decide +kernel) (pa_cons (pv 1) (pa_cons (pe_bltn (v := .ty "tuple") (by rfl) B.tuple (by decide +kernel) rfl) pa_nil))) (nomark _)) (pss_one (ps_ret pe_bl)) pss_nil)
      (pss_one (ps_ret (pe_and (pe_cmpR op_eq (pe_callB call_len_seq (by rfl) B.len PySem.boot_len (pa_cons (pv 0) pa_nil)) (pe_callB call_len_seq (by rfl) B.len PySem.boot_len (pa_cons (pv 1) pa_nil)) (nomark _))
          (pe_one (pe_callB (cr_all rfl) (by rfl) B.all (by decide +kernel) (pa_cons
            (pe_lc (own := [("_law_mine", 3), ("_law_its", 4)]) rfl scSame.nd (RZ.pi_zipA (by rfl) B.zip (pa_cons (pv 0) (pa_cons (pv 1) pa_nil)))
              (blkOk_by (own := [("_law_mine", 3), ("_law_its", 4)]) (N := nSame) (sc := defScope (topS 19)) (by decide +kernel))
              (fun _ _ _ _ _ => show PG _ _ (gTup K 2 (gCons (gName 3) (gCons (gName 4) gNil))) from pg_tup rfl (pgs_cons (pg_name (i := 3) scSame.nd rfl (Or.inl rfl)) (pgs_cons (pg_name (i := 4) scSame.nd rfl (Or.inl rfl)) pgs_nil))) (fun _ _ _ _ _ => pts_nil)
              (fun _ _ _ _ _ => pe_has G hr (pa_cons (pv 3) (pa_cons (pv 4) pa_nil)))) pa_nil))))))))
      pss_nil)
    (pss_cons (ps_if (PW.pt (pw_or (pt_cmpR op_isN (pv 1) pe_non (nomark _)) (pw_or1 (pt_val (pe_callB call_isiT (by rfl) B.isi (by decide +kernel) (pa_cons (pv 1) (pa_cons (pe_tup (pa_cons (pe_bltn (v := .ty "bool") (by rfl) B.bool (by decide +kernel) rfl) (pa_cons (pe_bltn (v := .ty "str") (by rfl) B.str (by decide +kernel) rfl) pa_nil))) pa_nil)))))))
        (pss_cons (ps_set (i := 2) scSame.nd rfl (Or.inl rfl) (pe_and (pe_cmpR op_eq (pe_callB call_isi (by rfl) B.isi (by decide +kernel) (pa_cons (pv 0) (pa_cons (pe_bltn (v := .ty "bool") (by rfl) B.bool (by decide +kernel) rfl) pa_nil))) (pe_callB call_isi (by rfl) B.isi (by decide +kernel) (pa_cons (pv 1) (pa_cons (pe_bltn (v := .ty "bool") (by rfl) B.bool (by decide +kernel) rfl) pa_nil))) (nomark _)) (pe_one (pe_cmpR op_eq (pe_cmpR op_isN (pv 0) pe_non (nomark _)) (pe_cmpR op_isN (pv 1) pe_non (nomark _)) (nomark _)))))
        (pss_one (ps_ret (pe_and (pv 2) (pe_one (pe_cmpR op_eq (pv 0) (pv 1) (nomark _)))))))
        pss_nil)
    (pss_one (ps_ret (pe_and (pe_callB call_isi (by rfl) B.isi (by decide +kernel) (pa_cons (pv 0) (pa_cons (pe_bltn (v := .ty "int") (by rfl) B.int (by decide +kernel) rfl) pa_nil))) (pe_and (pe_not (pe_callB call_isi (by rfl) B.isi (by decide +kernel) (pa_cons (pv 0) (pa_cons (pe_bltn (v := .ty "bool") (by rfl) B.bool (by decide +kernel) rfl) pa_nil)))) (pe_one (pe_cmpR op_eq (pv 0) (pv 1) (nomark _)))))))), ?_⟩
  refine ⟨_, rfl, (by show 2 ≤ sizeLine; decide), fun tp ntp => ?_⟩
  have s1 : Same H (upd H tp (.tup [.ty "list", .ty "tuple"])) := same_new ntp _
  refine ⟨_, tp, _, _, _, _, rfl, upd_same, .cons (.ty "list") (.cons (.ty "tuple") .nil), (hd2.mono s1).ty, kitAny2 (kit_lst d) (kit_tup d), _, rfl, ?_⟩
  generalize upd H tp (.tup [.ty "list", .ty "tuple"]) = H1 at s1 ⊢
  have k1 := hd1.mono s1
  have k2 := hd2.mono s1
  have seq : (isLst d || isTup d) = true → True := fun _ => trivial
  cases hd1 with
  | @lst a xs ds h1 h2 =>
    obtain ⟨m, rfl, hlen, hall⟩ := wf_list hw
    cases hd2 with
    | @lst b ys _ g1 g2 =>
      refine iteT ?_
      refine ⟨_, rfl, _, _, _, _, _, rfl, .ty "list", k1.ty, kit_lst _, _, rfl, _, _, _, _, _, rfl, .ty "list", k2.ty, kit_lst _, rfl, _, rfl, ?_⟩
      rw [decide_eq_true rfl]
      refine iteF ?_
      refine ⟨_, rfl, _, _, _, _, _, rfl, .ty "tuple", k1.ty, kit_tup _, _, rfl, _, _, _, _, _, rfl, .ty "tuple", k2.ty, kit_tup _, rfl, _, rfl, ?_⟩
      rw [decide_eq_true rfl]
      refine iteF ?_
      have ha := s1 _ _ h1
      have hb := s1 _ _ g1
      have l1 := h2.length
      have l2 := g2.length
      refine ⟨_, rfl, _, _, rfl, .inl (.of ha), _, rfl, _, _, rfl, .inl (.of hb), rfl, _, rfl, ?_⟩
      rw [l1, l2, decide_eq_true rfl]
      refine iteT ?_
      refine ⟨_, rfl, _, rfl, a, b, xs, ys, rfl, .inl ⟨.of ha, .of hb, fun D nD => ?_⟩⟩
      refine lc_zip (walk_zip (K := K) (a := a) (b := b) (xs := xs) (ys := ys) (by rw [l1, l2, Nat.min_self])) (fun H2 s2 => ⟨.of (s2 _ _ ha), .of (s2 _ _ hb)⟩) (h2.mono s1) (g2.mono s1) nD hlen (fun v u => rfl) (fun v u d H2 R hm hv hu s2 r => ?_) (fun H2 s2 hD => ?_)
      · exact ⟨_, rfl, _, rfl, v, u, d, m, rfl, hv, hu, hall d hm, by omega, r⟩
      · refine ⟨D, _, rfl, .of hD, ?_⟩
        rw [show (List.replicate ds.length true).all id = true by simp]
        exact q H2 (s1.trans s2)
  | @tup a xs ds h1 h2 =>
    obtain ⟨m, rfl, hlen, hall⟩ := wf_tuple hw
    cases hd2 with
    | @tup b ys _ g1 g2 =>
      refine iteT ?_
      refine ⟨_, rfl, _, _, _, _, _, rfl, .ty "list", k1.ty, kit_lst _, _, rfl, _, _, _, _, _, rfl, .ty "list", k2.ty, kit_lst _, rfl, _, rfl, ?_⟩
      rw [decide_eq_true rfl]
      refine iteF ?_
      refine ⟨_, rfl, _, _, _, _, _, rfl, .ty "tuple", k1.ty, kit_tup _, _, rfl, _, _, _, _, _, rfl, .ty "tuple", k2.ty, kit_tup _, rfl, _, rfl, ?_⟩
      rw [decide_eq_true rfl]
      refine iteF ?_
      have ha := s1 _ _ h1
      have hb := s1 _ _ g1
      have l1 := h2.length
      have l2 := g2.length
      refine ⟨_, rfl, _, _, rfl, .inr (.of ha), _, rfl, _, _, rfl, .inr (.of hb), rfl, _, rfl, ?_⟩
      rw [l1, l2, decide_eq_true rfl]
      refine iteT ?_
      refine ⟨_, rfl, _, rfl, a, b, xs, ys, rfl, .inr ⟨.of ha, .of hb, fun D nD => ?_⟩⟩
      refine lc_zip (walk_zipT (K := K) (a := a) (b := b) (xs := xs) (ys := ys) (by rw [l1, l2, Nat.min_self])) (fun H2 s2 => ⟨.of (s2 _ _ ha), .of (s2 _ _ hb)⟩) (h2.mono s1) (g2.mono s1) nD hlen (fun v u => rfl) (fun v u d H2 R hm hv hu s2 r => ?_) (fun H2 s2 hD => ?_)
      · exact ⟨_, rfl, _, rfl, v, u, d, m, rfl, hv, hu, hall d hm, by omega, r⟩
      · refine ⟨D, _, rfl, .of hD, ?_⟩
        rw [show (List.replicate ds.length true).all id = true by simp]
        exact q H2 (s1.trans s2)
  | non =>
    cases hd2
    refine iteF ?_
    refine ⟨_, rfl, rfl, _, rfl, ?_⟩
    rw [decide_eq_true rfl]
    refine iteT (iteT ?_)
    refine ⟨_, rfl, _, _, _, _, _, rfl, .ty "bool", k1.ty, kit_bl _, _, rfl, _, _, _, _, _, rfl, .ty "bool", k2.ty, kit_bl _, rfl, _, rfl, ?_⟩
    rw [decide_eq_true rfl]
    refine iteT ?_
    refine ⟨_, rfl, rfl, _, rfl, rfl, rfl, ?_⟩
    rw [decide_eq_true rfl]
    refine ⟨_, rfl, _, rfl, ?_⟩
    refine iteT ?_
    refine ⟨_, rfl, _, rfl, rfl, ?_⟩
    rw [decide_eq_true rfl]
    exact q H1 s1
  | bl b =>
    cases hd2
    refine iteF ?_
    refine ⟨_, rfl, rfl, _, rfl, ?_⟩
    rw [decide_eq_false (by intro z; cases z)]
    refine iteF ?_
    refine ⟨_, rfl, (by show 2 ≤ sizeLine; decide), fun tp2 ntp2 => ?_⟩
    have s2 : Same H1 (upd H1 tp2 (.tup [.ty "bool", .ty "str"])) := same_new ntp2 _
    refine ⟨_, tp2, _, _, _, _, rfl, upd_same, .cons (.ty "bool") (.cons (.ty "str") .nil), (k2.mono s2).ty, kitAny2 (kit_bl _) (kit_str _), _, rfl, ?_⟩
    refine iteT ?_
    refine ⟨_, rfl, _, _, _, _, _, rfl, .ty "bool", (k1.mono s2).ty, kit_bl _, _, rfl, _, _, _, _, _, rfl, .ty "bool", (k2.mono s2).ty, kit_bl _, rfl, _, rfl, ?_⟩
    rw [decide_eq_true rfl]
    refine iteT ?_
    refine ⟨_, rfl, rfl, _, rfl, rfl, rfl, ?_⟩
    rw [decide_eq_true rfl]
    refine ⟨_, rfl, _, rfl, ?_⟩
    refine iteT ?_
    refine ⟨_, rfl, _, rfl, rfl, ?_⟩
    rw [decide_eq_true rfl]
    exact q _ (s1.trans s2)
  | str x =>
    cases hd2
    refine iteF ?_
    refine ⟨_, rfl, rfl, _, rfl, ?_⟩
    rw [decide_eq_false (by intro z; cases z)]
    refine iteF ?_
    refine ⟨_, rfl, (by show 2 ≤ sizeLine; decide), fun tp2 ntp2 => ?_⟩
    have s2 : Same H1 (upd H1 tp2 (.tup [.ty "bool", .ty "str"])) := same_new ntp2 _
    refine ⟨_, tp2, _, _, _, _, rfl, upd_same, .cons (.ty "bool") (.cons (.ty "str") .nil), (k2.mono s2).ty, kitAny2 (kit_bl _) (kit_str _), _, rfl, ?_⟩
    refine iteT ?_
    refine ⟨_, rfl, _, _, _, _, _, rfl, .ty "bool", (k1.mono s2).ty, kit_bl _, _, rfl, _, _, _, _, _, rfl, .ty "bool", (k2.mono s2).ty, kit_bl _, rfl, _, rfl, ?_⟩
    rw [decide_eq_true rfl]
    refine iteT ?_
    refine ⟨_, rfl, rfl, _, rfl, rfl, rfl, ?_⟩
    rw [decide_eq_true rfl]
    refine ⟨_, rfl, _, rfl, ?_⟩
    refine iteT ?_
    refine ⟨_, rfl, _, rfl, rfl, ?_⟩
    rw [decide_eq_true rfl]
    exact q _ (s1.trans s2)
  | int i =>
    cases hd2
    refine iteF ?_
    refine ⟨_, rfl, rfl, _, rfl, ?_⟩
    rw [decide_eq_false (by intro z; cases z)]
    refine iteF ?_
    refine ⟨_, rfl, (by show 2 ≤ sizeLine; decide), fun tp2 ntp2 => ?_⟩
    have s2 : Same H1 (upd H1 tp2 (.tup [.ty "bool", .ty "str"])) := same_new ntp2 _
    refine ⟨_, tp2, _, _, _, _, rfl, upd_same, .cons (.ty "bool") (.cons (.ty "str") .nil), (k2.mono s2).ty, kitAny2 (kit_bl _) (kit_str _), _, rfl, ?_⟩
    refine iteF ?_
    refine ⟨_, rfl, _, _, _, _, _, rfl, .ty "int", (k1.mono s2).ty, kit_int _, _, rfl, ?_⟩
    refine iteT ?_
    refine ⟨_, rfl, _, _, _, _, _, rfl, .ty "bool", (k1.mono s2).ty, kit_bl _, _, rfl, _, rfl, ?_⟩
    refine iteT ?_
    refine ⟨_, rfl, _, rfl, rfl, ?_⟩
    rw [decide_eq_true rfl]
    exact q _ (s1.trans s2)
theorem same_none : FnOk P w K mg base CX0 0 f fd ["_law_got", "_law_due"] (spSame 0) := by
  have no : ∀ vs H Q E, ¬ spSame 0 vs H Q E := fun vs H Q E h => by
    obtain ⟨v1, v2, d, n, _, _, _, _, h1, _⟩ := h
    omega
  exact ⟨fun vs H Q E h => absurd h (no vs H Q E), fun A outer s H args us vs Q E _ _ _ _ h => absurd h (no vs H Q E)⟩
theorem has_same (B : Bts mg) (F : Fun K "_law_same" "_law_same" (topS 19) f fd) (b : Binds K fd ["_law_got", "_law_due"] []) (m : mg "_law_same" = some (.ref f)) : ∀ k : Nat, Has P w K mg base k "_law_same" ["_law_got", "_law_due"] (spSame k)
  | 0 => ⟨f, fd, same_none, m, F.kp, b⟩
  | k + 1 => ⟨f, fd, ok_same B (has_same B F b m k) F, m, F.kp, b⟩
end
end Lf

set_option maxHeartbeats 4000000
namespace Lf
open PySem PySem.Spec PyProof.Rows L2

/-! ## lists cut -/
theorem cutV_from (xs : List V) (k : Nat) : cutV xs (some (k : Int)) none = xs.drop k := by
  unfold cutV
  rw [HT.sIx_nat, HT.sIx_none]
  by_cases h : k ≤ xs.length
  · rw [Nat.min_eq_left h, List.take_of_length_le]
    rw [List.length_drop]
    exact Nat.le_refl _
  · rw [Nat.min_eq_right (by omega), List.drop_length, List.drop_eq_nil_of_le (by omega), List.take_nil]
theorem cutV_to (xs : List V) (k : Nat) : cutV xs none (some (k : Int)) = xs.take k := by
  unfold cutV
  rw [HT.sIx_nat, HT.sIx_none, List.drop_zero, Nat.sub_zero]
  by_cases h : k ≤ xs.length
  · rw [Nat.min_eq_left h]
  · rw [Nat.min_eq_right (by omega), List.take_length, List.take_of_length_le (by omega)]
theorem cutV_mid (xs : List V) (j k : Nat) (h : j ≤ xs.length) : cutV xs (some (j : Int)) (some (k : Int)) = (xs.drop j).take (k - j) := by
  unfold cutV
  rw [HT.sIx_nat, HT.sIx_nat, Nat.min_eq_left h]
  by_cases hk : k ≤ xs.length
  · rw [Nat.min_eq_left hk]
  · rw [Nat.min_eq_right (by omega), List.take_of_length_le, List.take_of_length_le] <;> rw [List.length_drop] <;> omega
section
variable {P : Program} {w : World} {K : PySem.W.Frag} {mg : Str → Option Value} {base : Heap} {f : Addr} {fd : FuncData}
/-! ## draws -/
/-- at u the source of draws, good for n draws -/
def Urn (n : Nat) (u : Addr) (H : Hp) : Prop := ∃ a b c : Int, H u = some (.lst [.int a, .int b, .int c]) ∧ 0 ≤ a ∧ 0 ≤ b ∧ b < 2 ^ 62 ∧ 0 ≤ c ∧ c + n ≤ 1000000
theorem Urn.le {n m : Nat} {u : Addr} {H : Hp} (h : Urn n u H) (e : m ≤ n) : Urn m u H := by
  obtain ⟨a, b, c, h1, h2, h3, h4, h5, h6⟩ := h
  exact ⟨a, b, c, h1, h2, h3, h4, h5, by omega⟩
theorem Urn.same {n : Nat} {u : Addr} {H H' : Hp} (h : Urn n u H) (e : Same H H') : Urn n u H' := by
  obtain ⟨a, b, c, h1, h2⟩ := h
  exact ⟨a, b, c, e _ _ h1, h2⟩
theorem Urn.at {n : Nat} {u : Addr} {H : Hp} (h : Urn n u H) : ∃ o, H u = some o := by
  obtain ⟨a, b, c, h1, _⟩ := h
  exact ⟨_, h1⟩
/-- all but the source is as it was -/
abbrev Kept (u : Addr) (H H' : Hp) : Prop := Same (hide u H) (hide u H')
def spTake : Sp := fun vs H Q _ => ∃ u low n, vs = [.ref u, .int low] ∧ Urn (n + 1) u H ∧ 1 ≤ low ∧ low < 1000000 ∧ ∀ r H', 0 ≤ r → r < low → Kept u H H' → Urn n u H' → Q (.int r) H'
theorem kept_upd {u : Addr} {H : Hp} {o : HO} : Kept u H (upd H u o) := by
  show Same (hide u H) (hide u (upd H u o))
  rw [hide_upd]
  exact .refl _
theorem scTake : FnScope ["_law_tub", "_law_under", "_law_drawn", "_law_once", "_law_odd", "_law_twice"] ["_law_tub", "_law_under"] (defScope (topS 16)) := ⟨rfl, rfl, rfl, by decide +kernel, rfl, by decide +kernel, by decide +kernel⟩
theorem ok_take (B : Bts mg) (F : Fun K "_law_take" "_law_take" (topS 16) f fd) : FnOk P w K mg base CX0 1 f fd ["_law_tub", "_law_under"] spTake := by
  refine F.ok scTake (fun vs H Q E h => ?_) (fun cdv A outer s H vs Q E hr h => ?_)
  · obtain ⟨u, low, n, rfl, _⟩ := h
    rfl
  obtain ⟨u, low, n, rfl, ⟨a, b, c, hu, ha, hb, hb2, hc, hcn⟩, hlow, hlow2, q⟩ := h
  refine ⟨_, pss_cons (ps_if (pt_cmpR op_gt (pe_ix ix_list (pv 0) pe_int (fun _ _ => rfl)) pe_int (nomark _))
      (pss_cons (ps_set (i := 2) scTake.nd rfl (Or.inl rfl) (pe_op op_mod (pe_callTy call_int1 (by rfl) B.int boot_int (pa_cons (pe_ix ix_list (pv 0) pe_int (fun _ _ => rfl)) pa_nil)) (pv 1)))
      (pss_cons (ps_asg (pe_op op_fdiv (pe_ix ix_list (pv 0) pe_int (fun _ _ => rfl)) (pv 1)) (pg_sub (pv 0) pe_int set_list))
      (pss_one (ps_ret (pv 2))))) pss_nil)
    (pss_cons (ps_asg (pe_op op_add (pe_ix ix_list (pv 0) pe_int (fun _ _ => rfl)) pe_int) (pg_sub (pv 0) pe_int set_list))
    (pss_cons (ps_set (i := 3) scTake.nd rfl (Or.inl rfl) (pe_op op_mod (pe_callTy call_int1 (by rfl) B.int boot_int (pa_cons (pe_op op_mul (pe_op op_add (pe_ix ix_list (pv 0) pe_int (fun _ _ => rfl)) (pe_op op_mul pe_int (pe_ix ix_list (pv 0) pe_int (fun _ _ => rfl)))) (pe_op op_add pe_int (pe_ix ix_list (pv 0) pe_int (fun _ _ => rfl)))) pa_nil)) pe_int))
    (pss_cons (ps_set (i := 4) scTake.nd rfl (Or.inl rfl) (pe_op op_add (pe_op op_mod (pe_callTy call_int1 (by rfl) B.int boot_int (pa_cons (pv 3) pa_nil)) pe_int) pe_int))
    (pss_cons (ps_set (i := 5) scTake.nd rfl (Or.inl rfl) (pe_op op_mod (pe_callTy call_int1 (by rfl) B.int boot_int (pa_cons (pe_op op_mul (pe_op op_add (pe_op op_add (pv 3) (pe_ix ix_list (pv 0) pe_int (fun _ _ => rfl))) (pe_op op_fdiv (pe_ix ix_list (pv 0) pe_int (fun _ _ => rfl)) pe_int)) (pv 4)) pa_nil)) pe_int))
    (pss_one (ps_ret (pe_op op_mod (pe_callTy call_int1 (by rfl) B.int boot_int (pa_cons (pe_op op_fdiv (pe_op op_mod (pe_callTy call_int1 (by rfl) B.int boot_int (pa_cons (pe_op op_add (pe_op op_mul (pv 5) pe_int) (pv 3)) pa_nil)) pe_int) pe_int) pa_nil)) (pv 1)))))))), ?_⟩
  refine ⟨_, rfl, u, _, _, _, rfl, rfl, .of hu, atI_nat (j := 0) rfl, _, _, rfl, rfl, _, rfl, ?_⟩
  refine ite2 (fun z => ?_) (fun z => ?_)
  · have z' : (0 : Int) < a := of_decide_eq_true z
    refine ⟨_, rfl, u, _, _, _, rfl, rfl, .of hu, atI_nat (j := 0) rfl, .inl ⟨_, rfl, _, rfl, _, _, rfl, rfl, by omega, ?_⟩⟩
    refine ⟨_, rfl, u, _, _, _, rfl, rfl, .of hu, atI_nat (j := 0) rfl, _, rfl, _, _, rfl, rfl, ⟨by omega, by omega⟩, _, rfl, u, _, _, 0, rfl, rfl, hu, rfl, ?_⟩
    refine ⟨_, rfl, ?_⟩
    refine q (a % low) _ (Int.emod_nonneg _ (by omega)) (Int.emod_lt_of_pos _ (by omega)) kept_upd ⟨a / low, b, c, upd_same, Int.ediv_nonneg ha (by omega), hb, hb2, hc, by omega⟩
  · refine ⟨_, rfl, u, _, _, _, rfl, rfl, .of hu, atI_nat (j := 2) rfl, _, _, rfl, rfl, _, rfl, u, _, _, 2, rfl, rfl, hu, rfl, ?_⟩
    have hu1 : upd H u (.lst ([V.int a, .int b, .int c].set 2 (.int (c + 1)))) u = some (.lst [.int a, .int b, .int (c + 1)]) := upd_same
    have kp : Kept u H (upd H u (.lst ([V.int a, .int b, .int c].set 2 (.int (c + 1))))) := kept_upd
    generalize upd H u (.lst ([V.int a, .int b, .int c].set 2 (.int (c + 1)))) = H1 at hu1 kp ⊢
    refine ⟨_, rfl, u, _, _, _, rfl, rfl, .of hu1, atI_nat (j := 1) rfl, _, rfl, u, _, _, _, rfl, rfl, .of hu1, atI_nat (j := 2) rfl, _, _, rfl, rfl, .inl ⟨by decide, by decide⟩, _, _, rfl, rfl,
      _, rfl, u, _, _, _, rfl, rfl, .of hu1, atI_nat (j := 2) rfl, _, _, rfl, rfl, _, _, rfl, rfl, .inr ⟨by omega, by omega⟩, .inl ⟨_, rfl, _, _, rfl, rfl, (show (0 : Int) < 2147483647 by decide), ?_⟩⟩
    generalize ((b + 48271 * (c + 1)) * (39373 + (c + 1))) % 2147483647 = x1
    refine ⟨_, rfl, .inl ⟨_, rfl, _, _, rfl, rfl, (show (0 : Int) < 40009 by decide), _, _, rfl, rfl, ?_⟩⟩
    have f1 : 0 ≤ x1 % 40009 := Int.emod_nonneg _ (by decide)
    have f2 : x1 % 40009 < 40009 := Int.emod_lt_of_pos _ (by decide)
    generalize x1 % 40009 = x2 at f1 f2
    refine ⟨_, rfl, _, rfl, u, _, _, _, rfl, rfl, .of hu1, atI_nat (j := 2) rfl, _, _, rfl, rfl, _, rfl, u, _, _, _, rfl, rfl, .of hu1, atI_nat (j := 1) rfl, _, _, rfl, rfl, ⟨by decide, by decide⟩, _, _, rfl, rfl, _, rfl, _, _, rfl, rfl, .inr ⟨by omega, by omega⟩, .inl ⟨_, rfl, _, _, rfl, rfl, (show (0 : Int) < 2147483629 by decide), ?_⟩⟩
    generalize ((x1 + (c + 1) + b / 1000003) * (x2 + 7)) % 2147483629 = x3
    refine ⟨_, rfl, _, _, rfl, rfl, .inr ⟨by decide, by decide⟩, _, rfl, _, _, rfl, rfl, .inl ⟨_, rfl, _, _, rfl, rfl, (show (0 : Int) < 2147483587 by decide), _, _, rfl, rfl, ⟨by decide, by decide⟩, .inl ⟨_, rfl, _, rfl, _, _, rfl, rfl, by omega, ?_⟩⟩⟩
    refine q _ _ (Int.emod_nonneg _ (by omega)) (Int.emod_lt_of_pos _ (by omega)) kp ⟨a, b, c + 1, hu1, ha, hb, hb2, by omega, by omega⟩

end
theorem seqIx {i : Int} {n : Nat} (h0 : 0 ≤ i) (h1 : i < n) : seqIndex? i n = some i.toNat := by
  have e : ixN n i = some i.toNat := by
    unfold ixN
    rw [if_pos h0, if_pos h1]
  exact (ixN_seq e).1
theorem ne_urn {n : Nat} {u p : Addr} {H : Hp} (h : Urn n u H) (hp : H p = none) : p ≠ u := by
  obtain ⟨o, e⟩ := h.at
  exact fun z => ne_of_none e hp z.symm
theorem erase_perm {α : Type} : ∀ (l : List α) (i : Nat) (h : i < l.length), (l[i] :: l.eraseIdx i).Perm l
  | x :: l, 0, _ => .refl _
  | x :: l, i + 1, h => by
    have h' : i < l.length := by simpa using h
    have ih := erase_perm l i h'
    show (l[i] :: x :: l.eraseIdx i).Perm (x :: l)
    exact (List.Perm.swap x l[i] _).trans (ih.cons x)
theorem kept_new {u r : Addr} {H H' : Hp} {o : HO} (k : Kept u H H') (nr : H r = none) : Kept u H (upd H' r o) := fun b x e => by
  have hb : b ≠ u := fun z => by
    rw [z, hide_at] at e
    cases e
  have e' : H b = some x := hide_sub _ _ e
  have hr : b ≠ r := ne_of_none e' nr
  rw [hide_ne hb, upd_ne hr, ← hide_ne (H := H') hb]
  exact k b x e
theorem Urn.upd {n : Nat} {u r : Addr} {H : Hp} {o : HO} (h : Urn n u H) (hne : r ≠ u) : Urn n u (upd H r o) := by
  obtain ⟨a, b, c, h1, h2⟩ := h
  exact ⟨a, b, c, (upd_ne hne.symm).trans h1, h2⟩
end Lf

set_option maxHeartbeats 4000000
namespace Lf
open PySem PySem.Spec PyProof.Rows L2

/-! ## the source of draws, the numbers -/
def spBox (K : PySem.W.Frag) : Sp := fun vs H Q _ => ∃ (a : Addr) (ns : List Int) (k : Int), vs = [.ref a, .int k] ∧ SqL K H a (ns.map V.int) ∧ 0 ≤ k ∧ k ≤ 100 ∧
  ∀ p H', Same H H' → H p = none → Urn 1000000 p H' → Q (.ref p) H'
def spCells (K : PySem.W.Frag) : Sp := fun vs H Q _ => ∃ (a : Addr) (ns : List Int), vs = [.ref a, .int 2] ∧ SqL K H a (ns.map V.int) ∧ ns.length ≤ 63 ∧
  ∀ cs p H', Same H H' → H' p = some (.lst (List.map V.int cs)) → 1 ≤ cs.length → cs.length ≤ 2 → Q (.ref p) H'
theorem int_at {ns : List Int} {i : Int} (h0 : 0 ≤ i) (h1 : i < ns.length) : ∃ c : Int, atI (ns.map V.int) i = some (.int c) := by
  have hi : i.toNat < ns.length := by omega
  exact ⟨ns[i.toNat], at_of (j := i.toNat) (by omega) (by rw [List.getElem?_map]; simp [hi])⟩
theorem b01 (k : Bool) : -(2 ^ 64) < (if k = true then (1 : Int) else 0) ∧ (if k = true then (1 : Int) else 0) < 2 ^ 64 := by cases k <;> decide
theorem b0 (k : Bool) : 0 ≤ (if k = true then (1 : Int) else 0) := by cases k <;> decide
section
variable {P : Program} {w : World} {K : PySem.W.Frag} {mg : Str → Option Value} {base : Heap} {f : Addr} {fd : FuncData}
theorem scBox : FnScope ["_law_script", "_law_k", "_law_cell"] ["_law_script", "_law_k"] (defScope (topS 15)) := ⟨rfl, rfl, rfl, by decide +kernel, rfl, by decide +kernel, by decide +kernel⟩
theorem ok_box (B : Bts mg) (F : Fun K "_law_box" "_law_box" (topS 15) f fd) : FnOk P w K mg base CX0 1 f fd ["_law_script", "_law_k"] (spBox K) := by
  refine F.ok scBox (fun vs H Q E h => ?_) (fun cdv A outer s H vs Q E hr h => ?_)
  · obtain ⟨a, ns, k, rfl, _⟩ := h
    rfl
  obtain ⟨a, ns, k, rfl, hS, k0, k1, q⟩ := h
  refine ⟨_, pss_cons (ps_set (i := 2) scBox.nd rfl (Or.inl rfl) (pe_ifExp (pt_cmpR op_lt (pv 1) (pe_callB call_len_seq (by rfl) B.len PySem.boot_len (pa_cons (pv 0) pa_nil)) (nomark _)) (pe_ix ix_list (pv 0) (pv 1) (fun _ _ => rfl)) pe_int))
    (pss_one (ps_ret (pe_lst (pa_cons (pe_op op_mul (pe_callB call_abs (by rfl) B.abs (by decide +kernel) (pa_cons (pv 2) pa_nil)) (pe_callTy call_int1 (by rfl) B.int boot_int (pa_cons (pe_cmpR op_ge (pe_callB call_abs (by rfl) B.abs (by decide +kernel) (pa_cons (pv 2) pa_nil)) (pe_op op_pow pe_int pe_int) (nomark _)) pa_nil)))
      (pa_cons (pe_op op_add (pe_op op_add (pe_op op_mod (pe_callTy call_int1 (by rfl) B.int boot_int (pa_cons (pv 2) pa_nil)) pe_int) (pe_op op_mul pe_int (pv 1))) pe_int)
      (pa_cons pe_int pa_nil)))))), ?_⟩
  have main : ∀ c : Int, (tRet (tLst (tCons (tOp (rI CMul fun i j => V.int (i * j)) (tCB (fun xs H Q => ∃ i, xs = [V.int i] ∧ Q (.int (if i < 0 then -i else i)) H) (tCons (tVar 2) tNil))
      (tCB (fun xs H Q => (∃ i, xs = [V.int i] ∧ Q (.int i) H) ∨ ∃ k, xs = [V.bl k] ∧ Q (.int (if k then 1 else 0)) H) (tCons (tOp (rI0 fun i j => .bl (decide (j ≤ i))) (tCB (fun xs H Q => ∃ i, xs = [V.int i] ∧ Q (.int (if i < 0 then -i else i)) H) (tCons (tVar 2) tNil)) (tOp (rI CPow fun i j => .int (i ^ j.toNat)) (tC (.int 10)) (tC (.int 18)))) tNil)))
      (tCons (tOp (rI0 fun i j => .int (i + j)) (tOp (rI0 fun i j => .int (i + j)) (tOp (rI (fun _ j => 0 < j) fun i j => .int (i % j)) (tCB (fun xs H Q => (∃ i, xs = [V.int i] ∧ Q (.int i) H) ∨ ∃ k, xs = [V.bl k] ∧ Q (.int (if k then 1 else 0)) H) (tCons (tVar 2) tNil)) (tC (.int 2305843009213693951))) (tOp (rI CMul fun i j => V.int (i * j)) (tC (.int 39373)) (tVar 1))) (tC (.int 142317)))
      (tCons (tC (.int 0)) tNil))))) { nx := fun _ H' => Q .non H', rt := Q } [some (.ref a), some (.int k), some (.int c)] H := by
    intro c
    have hab : 0 ≤ (if c < 0 then -c else c) := by split <;> omega
    refine ⟨_, rfl, c, rfl, _, rfl, c, rfl, _, _, rfl, rfl, ⟨by decide, by decide, by decide⟩, _, _, rfl, rfl, .inr ⟨_, rfl, _, _, rfl, rfl, .inr (b01 _), ?_⟩⟩
    refine ⟨_, rfl, .inl ⟨_, rfl, _, _, rfl, rfl, (show (0 : Int) < 2305843009213693951 by decide), ?_⟩⟩
    have m0 : 0 ≤ c % 2305843009213693951 := Int.emod_nonneg _ (by decide)
    have m1 : c % 2305843009213693951 < 2305843009213693951 := Int.emod_lt_of_pos _ (by decide)
    refine ⟨_, rfl, _, _, rfl, rfl, .inl ⟨by decide, by decide⟩, _, _, rfl, rfl, _, _, rfl, rfl, (by show 3 ≤ sizeLine; decide), fun p np => ?_⟩
    refine q p _ (same_new np _) np ⟨_, _, _, upd_same, ?_, by omega, by omega, by decide, by decide⟩
    exact Int.mul_nonneg hab (b0 _)
  refine ⟨_, rfl, _, rfl, _, _, rfl, .inl hS, _, _, rfl, rfl, _, rfl, ?_⟩
  refine ite2 (fun z => ?_) (fun z => ?_)
  · have z' : k < (((ns.map V.int).length : Nat) : Int) := of_decide_eq_true z
    rw [List.length_map] at z'
    obtain ⟨c, hc⟩ := int_at k0 z'
    exact ⟨_, rfl, _, rfl, a, _, _, _, rfl, rfl, hS, hc, main c⟩
  · exact main 0

theorem scCells : FnScope ["_law_script", "_law_top", "_law_cells_here", "_law_k", "_law_cell", "_law_spot"] ["_law_script", "_law_top"] (defScope (topS 17)) := ⟨rfl, rfl, rfl, by decide +kernel, rfl, by decide +kernel, by decide +kernel⟩
theorem ok_cells (B : Bts mg) (F : Fun K "_law_cells" "_law_cells" (topS 17) f fd) : FnOk P w K mg base CX0 1 f fd ["_law_script", "_law_top"] (spCells K) := by
  refine F.ok scCells (fun vs H Q E h => ?_) (fun cdv A outer s H vs Q E hr h => ?_)
  · obtain ⟨a, ns, rfl, _⟩ := h
    rfl
  obtain ⟨a, ns, rfl, hS, hl, q⟩ := h
  refine ⟨_, pss_cons (ps_set (i := 2) scCells.nd rfl (Or.inl rfl) (pe_orT (pe_callTy call_list_of (by rfl) B.list (by decide +kernel) (pa_cons (pe_slice sl_list (pv 0) po_none (po_some (pv 1))) pa_nil)) (pe_one (pe_lst (pa_cons pe_int pa_nil)))))
    (pss_cons (ps_for PassesOwn.never rfl (pi_enum (by rfl) B.enum (pa_cons (pe_slice sl_list (pv 0) (po_some (pv 1)) (po_some pe_int)) pa_nil))
      (pg_tup rfl (pgs_cons (pg_name (i := 3) scCells.nd rfl (Or.inl rfl)) (pgs_cons (pg_name (i := 4) scCells.nd rfl (Or.inl rfl)) pgs_nil)))
      (pss_cons (ps_set (i := 5) scCells.nd rfl (Or.inl rfl) (pe_op op_mod (pe_callTy call_int1 (by rfl) B.int boot_int (pa_cons (pv 3) pa_nil)) (pv 1)))
      (pss_one (ps_asg (pe_op op_add (pe_ix ix_list (pv 2) (pv 5) (fun _ _ => rfl)) (pe_op op_mul (pv 4) (pe_op op_add (pv 3) pe_int))) (pg_sub (pv 2) (pv 5) set_list)))))
    (pss_one (ps_ret (pv 2)))), ?_⟩
  have main : ∀ (c : Addr) (cs : List Int) (H1 : Hp), Same H H1 → H c = none → H1 c = some (.lst (cs.map V.int)) → 1 ≤ cs.length → cs.length ≤ 2 → (2 < ns.length → cs.length = 2) →
      (tSeq (tFor (iEnum K (tCons (tSl (rSlL K) (tVar 0) (tPart (tVar 1)) (tPart (tC (.int 63)))) tNil)) (gTup K 2 (gCons (gName 3) (gCons (gName 4) gNil)))
        (tSeq (tAsg (tOp (rI (fun _ j => 0 < j) fun i j => .int (i % j)) (tCB (fun xs H Q => (∃ i, xs = [V.int i] ∧ Q (.int i) H) ∨ ∃ k, xs = [V.bl k] ∧ Q (.int (if k then 1 else 0)) H) (tCons (tVar 3) tNil)) (tVar 1)) (gName 5))
          (tAsg (tOp (rI0 fun i j => .int (i + j)) (tOp (rIxL K) (tVar 2) (tVar 5)) (tOp (rI CMul fun i j => V.int (i * j)) (tVar 4) (tOp (rI0 fun i j => .int (i + j)) (tVar 3) (tC (.int 2))))) (gSub (tVar 2) (tVar 5) rSetL))))
        (tRet (tVar 2))) { nx := fun _ H' => Q .non H', rt := Q } [some (.ref a), some (.int 2), some (.ref c), none, none, none] H1 := by
    intro c cs H1 s1 nc hc l1 l3 l33
    have hS1 : SqL K H1 a (ns.map V.int) := s1.seq hS
    refine ⟨_, rfl, _, rfl, 2, rfl, 63, rfl, a, _, rfl, hS1, fun p np => ?_⟩
    have ecut : cutV (ns.map V.int) (some (2 : Int)) (some (63 : Int)) = ((ns.drop 2).take 61).map V.int := by
      by_cases h3 : 2 ≤ ns.length
      · have h := cutV_mid (ns.map V.int) 2 63 (by rw [List.length_map]; exact h3)
        rw [show ((2 : Nat) : Int) = (2 : Int) from rfl, show ((63 : Nat) : Int) = (63 : Int) from rfl] at h
        rw [h, ← List.map_drop, ← List.map_take]
      · have h1 : ns.drop 2 = [] := List.drop_eq_nil_of_le (by omega)
        rw [h1]
        unfold cutV
        rw [show HT.sIx (ns.map V.int).length 0 (some (2 : Int)) = min 2 (ns.map V.int).length from HT.sIx_nat _ _ 2, List.length_map, Nat.min_eq_right (by omega), List.drop_eq_nil_of_le (by rw [List.length_map]; exact Nat.le_refl _), List.take_nil]
        rfl
    rw [ecut]
    have s2 := same_new np (.lst (((ns.drop 2).take 61).map V.int))
    have e2 : upd H1 p (.lst (((ns.drop 2).take 61).map V.int)) p = some (.lst (((ns.drop 2).take 61).map V.int)) := upd_same
    have hc2 := s2 _ _ hc
    have hpc : p ≠ c := fun e => by
      rw [e] at np
      rw [hc] at np
      cases np
    generalize upd H1 p (.lst (((ns.drop 2).take 61).map V.int)) = H2 at s2 e2 hc2 ⊢
    generalize hms : (ns.drop 2).take 61 = ms at e2
    have hml : ms.length ≤ 61 ∧ (0 < ms.length → cs.length = 2) := by
      rw [← hms, List.length_take, List.length_drop]
      exact ⟨by omega, fun h => l33 (by omega)⟩
    refine ⟨p, _, rfl, .of e2, ?_⟩
    refine for_it (walk_enum (K := K) (a := p) (xs := ms.map V.int)) (fun i σ H3 => ∃ t3 t4 t5 zs, σ = [some (.ref a), some (.int 2), some (.ref c), t3, t4, t5] ∧ Same H H3 ∧ H3 p = some (.lst (ms.map V.int)) ∧ H3 c = some (.lst (List.map V.int zs)) ∧ zs.length = cs.length)
      ⟨none, none, none, cs, rfl, s1.trans s2, e2, hc2, rfl⟩ (fun i σ H3 _ hP => ?_) (fun i x σ H3 H4 hi hP hY => ?_) (fun σ H3 hP => ?_)
    · obtain ⟨t3, t4, t5, zs, rfl, _, hp, _⟩ := hP
      exact .of hp
    · obtain ⟨T, x1, x2, rfl, nT, rfl, e1, e2⟩ := hY
      obtain ⟨t3, t4, t5, zs, rfl, sm, hp, hc3, hz⟩ := hP
      have ex1 : x1 = .int (i : Nat) := (Option.some.inj e1).symm
      subst ex1
      obtain ⟨y, hy⟩ : ∃ y : Int, x2 = .int y := by
        have e2' : (ms.map V.int)[i]? = some x2 := e2
        rw [List.getElem?_map] at e2'
        cases e : ms[i]? with
        | none =>
          rw [e] at e2'
          cases e2'
        | some y =>
          rw [e] at e2'
          exact ⟨y, (Option.some.inj e2').symm⟩
      subst hy
      rw [List.length_map] at hi
      have h3 : cs.length = 2 := hml.2 (by omega)
      have s5 := same_new nT (.tup [.int (i : Nat), .int y])
      have hc5 := s5 _ _ hc3
      have hp5 := s5 _ _ hp
      refine ⟨T, _, rfl, .of upd_same, rfl, _, _, rfl, _, _, rfl, rfl, ?_⟩
      generalize upd H3 T (.tup [.int (i : Nat), .int y]) = H5 at s5 hc5 hp5 ⊢
      refine ⟨_, rfl, .inl ⟨_, rfl, _, rfl, _, _, rfl, rfl, (show (0 : Int) < 2 by decide), ?_⟩⟩
      have m0 : 0 ≤ (i : Int) % 2 := Int.emod_nonneg _ (by decide)
      have m1 : (i : Int) % 2 < 2 := Int.emod_lt_of_pos _ (by decide)
      obtain ⟨z, hz1⟩ := int_at (ns := zs) m0 (by omega)
      refine ⟨_, rfl, _, rfl, c, _, _, _, rfl, rfl, .of hc5, hz1, _, rfl, _, rfl, _, _, rfl, rfl, _, _, rfl, rfl, .inr ⟨by omega, by omega⟩, _, _, rfl, rfl, _, rfl, _, rfl, c, _, _, ((i : Int) % 2).toNat, rfl, rfl, hc5, ?_, ?_⟩
      · unfold ixN
        rw [if_pos m0, if_pos (by rw [List.length_map]; omega)]
      refine ⟨_, _, _, zs.set ((i : Int) % 2).toNat (z + y * ((i : Int) + 2)), rfl, same_upd (sm.trans s5) nc _, ?_, ?_, ?_⟩
      · rw [upd_ne hpc]
        exact hp5
      · rw [upd_same, List.map_set]
      · rw [List.length_set]
        exact hz
    · obtain ⟨t3, t4, t5, zs, rfl, sm, hp, hc3, hz⟩ := hP
      exact ⟨_, rfl, q zs c H3 sm hc3 (by omega) (by omega)⟩
  refine ⟨_, rfl, _, rfl, 2, rfl, a, _, rfl, hS, fun p np => ?_⟩
  have ecut : cutV (ns.map V.int) none (some (2 : Int)) = (ns.take 2).map V.int := by
    have h := cutV_to (ns.map V.int) 2
    rw [show ((2 : Nat) : Int) = (2 : Int) from rfl] at h
    rw [h, List.map_take]
  rw [ecut]
  have s1 := same_new np (.lst ((ns.take 2).map V.int))
  refine ⟨p, _, rfl, .inl (.of upd_same), fun c nc => ?_⟩
  have s2 := s1.trans (same_new nc (.lst ((ns.take 2).map V.int)))
  refine ⟨!((ns.take 2).map V.int).isEmpty, .inl ⟨_, .of upd_same, rfl⟩, ?_⟩
  have nc0 : H c = none := s1.free nc
  by_cases he : ns = []
  · subst he
    refine iteF ?_
    refine ⟨by show 1 ≤ sizeLine; decide, fun g ng => ?_⟩
    exact main g [0] _ (s2.trans (same_new ng _)) (s2.free ng) upd_same (by decide) (by decide) (fun h => absurd h (by simp))
  · have hne : (!((ns.take 2).map V.int).isEmpty) = true := by
      cases ns with
      | nil => exact absurd rfl he
      | cons _ _ => rfl
    rw [hne]
    refine iteT ?_
    refine main c (ns.take 2) _ s2 nc0 upd_same ?_ ?_ ?_
    · rw [List.length_take]
      have : 0 < ns.length := List.length_pos_iff.mpr he
      omega
    · rw [List.length_take]
      omega
    · rw [List.length_take]
      omega
end
end Lf

set_option maxHeartbeats 4000000
namespace Lf
open PySem PySem.Spec PyProof.Rows L2

/-! ## pick -/
/-- up to so many of the items, each place once; u is the source of draws -/
def spPick : Sp := fun vs H Q _ => ∃ u l xs many n, vs = [.ref u, .ref l, .int (many : Nat)] ∧ Urn (n + xs.length) u H ∧ hide u H l = some (.lst xs) ∧ xs.length ≤ 100 ∧
  ∀ ys p H', (∃ rs, (ys ++ rs).Perm xs) → ys.length = min many xs.length → Kept u H H' → Urn n u H' → hide u H' p = some (.lst ys) → Q (.ref p) H'
section
variable {P : Program} {w : World} {K : PySem.W.Frag} {mg : Str → Option Value} {base : Heap} {f : Addr} {fd : FuncData}
theorem scPick : FnScope ["_law_tub", "_law_some", "_law_many", "_law_left", "_law_found", "_law_turn"] ["_law_tub", "_law_some", "_law_many"] (defScope (topS 18)) := ⟨rfl, rfl, rfl, by decide +kernel, rfl, by decide +kernel, by decide +kernel⟩
theorem ok_pick (B : Bts mg) (gT : Has P w K mg base 1 "_law_take" ["_law_tub", "_law_under"] spTake) (F : Fun K "_law_pick" "_law_pick" (topS 18) f fd) : FnOk P w K mg base CX0 2 f fd ["_law_tub", "_law_some", "_law_many"] spPick := by
  refine F.ok scPick (fun vs H Q E h => ?_) (fun cdv A outer s H vs Q E hr h => ?_)
  · obtain ⟨u, l, xs, many, n, rfl, _⟩ := h
    rfl
  obtain ⟨u, l, xs, many, n, rfl, hu, hl, hlen, q⟩ := h
  refine ⟨_, pss_cons (ps_par (i := 3) (j := 4) rfl scPick.nd rfl rfl (by decide) rfl rfl (pa_cons (pe_callTy call_list_of (by rfl) B.list (by decide +kernel) (pa_cons (pv 1) pa_nil)) (pa_cons (pe_lst pa_nil) pa_nil)) (by rfl))
    (pss_cons (ps_for PassesOwn.never rfl (pi_range1 (by rfl) B.range (pa_cons (pe_callB (call_min2 rfl) (by rfl) B.min (by decide +kernel) (pa_cons (pv 2) (pa_cons (pe_callB call_len_seq (by rfl) B.len PySem.boot_len (pa_cons (pv 3) pa_nil)) pa_nil))) pa_nil)) (pg_name (i := 5) scPick.nd rfl (Or.inl rfl))
      (pss_one (ps_expr (pe_bm PySem.F.plainAttrs_list PySem.F.slot_list_append PySem.F.type_list_append mt_append (pv 4) (pa_cons
        (pe_bm PySem.F.plainAttrs_list PySem.F.slot_list_pop PySem.F.type_list_pop mt_popAt (pv 3) (pa_cons (pe_has gT hr (pa_cons (pv 0) (pa_cons (pe_callB call_len_seq (by rfl) B.len PySem.boot_len (pa_cons (pv 3) pa_nil)) pa_nil))) pa_nil)) pa_nil)))))
    (pss_one (ps_ret (pv 4)))), ?_⟩
  have hl0 : H l = some (.lst xs) := hide_sub _ _ hl
  refine ⟨_, rfl, _, _, rfl, .inl (.of hl0), fun r nr => ⟨Nat.zero_le _, fun g ng => ?_⟩⟩
  have s1 : Same H (upd H r (.lst xs)) := same_new nr _
  have s2 := s1.trans (same_new ng (.lst []))
  have hgr : g ≠ r := fun e => by
    rw [e, upd_same] at ng
    cases ng
  have nru : r ≠ u := ne_urn hu nr
  have ngu : g ≠ u := ne_urn (hu.same s1) ng
  have e1 : upd (upd H r (.lst xs)) g (.lst []) r = some (.lst xs) := by rw [upd_ne hgr.symm, upd_same]
  have e2 : upd (upd H r (.lst xs)) g (.lst []) g = some (.lst []) := upd_same
  refine ⟨_, _, rfl, ?_⟩
  have hnr0 : H g = none := s1.free ng
  generalize upd (upd H r (.lst xs)) g (.lst []) = H1 at s2 e1 e2 ⊢
  refine ⟨_, rfl, _, rfl, _, _, rfl, .inl (.of e1), _, _, rfl, ?_⟩
  have emin : (if ((xs.length : Nat) : Int) < (many : Int) then ((xs.length : Nat) : Int) else (many : Int)) = ((min many xs.length : Nat) : Int) := by
    by_cases c : ((xs.length : Nat) : Int) < (many : Int)
    · rw [if_pos c, Nat.min_eq_right (by omega)]
    · rw [if_neg c, Nat.min_eq_left (by omega)]
  rw [emin]
  generalize hk : min many xs.length = k
  have hkx : k ≤ xs.length := by rw [← hk]; exact Nat.min_le_right _ _
  refine ⟨_, rfl, by omega, by omega, ?_⟩
  refine for_it (walk_range (lo := 0) (n := ((k : Nat) : Int).toNat)) (fun i σ H2 => ∃ t rs fs, σ = [some (.ref u), some (.ref l), some (.int (many : Nat)), some (.ref r), some (.ref g), t] ∧ Kept u H H2 ∧ Urn (n + (xs.length - i)) u H2 ∧
      H2 r = some (.lst rs) ∧ H2 g = some (.lst fs) ∧ (fs ++ rs).Perm xs ∧ fs.length = i)
    ⟨none, xs, [], rfl, hide_mono s2, hu.same s2, e1, e2, .refl _, rfl⟩ (fun _ _ _ _ _ => trivial) (fun i x σ H2 H3 hi hP hY => ?_) (fun σ H2 hP => ?_)
  · obtain ⟨rfl, rfl⟩ := hY
    obtain ⟨t, rs, fs, rfl, kp, u2, hr2, hg2, pm, hf⟩ := hP
    have hl2 := pm.length_eq
    rw [List.length_append] at hl2
    have hi' : i < xs.length := by omega
    refine ⟨_, rfl, .inl ⟨rfl, _, .of hg2⟩, _, rfl, .inl ⟨rfl, _, .of hr2⟩, _, rfl, _, rfl, _, _, rfl, .inl (.of hr2), u, _, n + (xs.length - (i + 1)), rfl, u2.le (by omega), by omega, by omega, fun z H4 z0 z1 k4 u4 => ?_⟩
    have hr4 : H4 r = some (.lst rs) := hide_sub _ _ (k4 _ _ (hide_in nru hr2))
    have hg4 : H4 g = some (.lst fs) := hide_sub _ _ (k4 _ _ (hide_in ngu hg2))
    have hz : z.toNat < rs.length := by omega
    refine ⟨r, rs, z, z.toNat, rs[z.toNat], rfl, rfl, hr4, by omega, by omega, seqIx z0 z1, List.getElem?_eq_getElem hz, ?_⟩
    have hg5 : upd H4 r (.lst (rs.eraseIdx z.toNat)) g = some (.lst fs) := by rw [upd_ne hgr]; exact hg4
    refine ⟨g, fs, rs[z.toNat], rfl, rfl, hg5, small1000 (by omega), ?_⟩
    refine ⟨_, rs.eraseIdx z.toNat, fs ++ [rs[z.toNat]], rfl, ?_, ?_, ?_, upd_same, ?_, ?_⟩
    · exact kept_new (kept_new (kp.trans k4) nr) hnr0
    · exact (u4.upd nru).upd ngu
    · rw [upd_ne hgr.symm, upd_same]
    · refine List.Perm.trans ?_ pm
      rw [List.append_assoc]
      exact (erase_perm rs z.toNat hz).append_left fs
    · rw [List.length_append, hf]
      rfl
  · obtain ⟨t, rs, fs, rfl, kp, u2, hr2, hg2, pm, hf⟩ := hP
    refine ⟨_, rfl, q fs g H2 ⟨rs, pm⟩ ?_ kp (u2.le (by omega)) (hide_in ngu hg2)⟩
    rw [hf, hk]
    rfl
end
/-! ## lists -/
mutual
def lstD : PyData → PyData
  | .list ds => .list (lstDs ds)
  | .tuple ds => .list (lstDs ds)
  | .none => .none
  | .bool b => .bool b
  | .int i => .int i
  | .str x => .str x
  | .dict kvs => .dict kvs
def lstDs : List PyData → List PyData
  | [] => []
  | d :: ds => lstD d :: lstDs ds
end
theorem lstDs_map : ∀ ds : List PyData, lstDs ds = ds.map lstD
  | [] => by rw [lstDs]; rfl
  | d :: ds => by rw [lstDs, lstDs_map ds]; rfl
def spLists (k : Nat) : Sp := fun vs H Q _ => ∃ v d n, vs = [v] ∧ Dd H v d ∧ wf n d = true ∧ n + 1 ≤ k ∧ ∀ y H', Same H H' → Dd (newer H H') y (lstD d) → Q y H'
section
variable {P : Program} {w : World} {K : PySem.W.Frag} {mg : Str → Option Value} {base : Heap} {f : Addr} {fd : FuncData}
theorem scLists : FnScope ["_law_matter", "_law_bit"] ["_law_matter"] (defScope (topS 20)) := ⟨rfl, rfl, rfl, by decide +kernel, rfl, by decide +kernel, by decide +kernel⟩
theorem ok_lists {k : Nat} (B : Bts mg) (G : Has P w K mg base k "_law_lists" ["_law_matter"] (spLists k)) (F : Fun K "_law_lists" "_law_lists" (topS 20) f fd) : FnOk P w K mg base CX0 (k + 1) f fd ["_law_matter"] (spLists (k + 1)) := by
  refine F.ok scLists (fun vs H Q E h => ?_) (fun cdv A outer s H vs Q E hr h => ?_)
  · obtain ⟨v, d, n, rfl, _⟩ := h
    rfl
  obtain ⟨v, d, n, rfl, hd, hw, hn, q⟩ := h
  refine ⟨_, pss_one (ps_ret (pe_ifExp (pt_val (pe_callB call_isiT (by rfl) B.isi (by decide +kernel) (pa_cons (pv 0) (pa_cons (pe_tup (pa_cons (pe_bltn (v := .ty "list") (by rfl) B.list (by decide +kernel) rfl) (pa_cons (pe_bltn (v := .ty "tuple") (by rfl) B.tuple (by decide +kernel) rfl) pa_nil))) pa_nil))))
      (pe_lc (own := [("_law_bit", 1)]) (g := gName 1) rfl scLists.nd (pi_seq (pv 0)) (blkOk_by (own := [("_law_bit", 1)]) (N := ["_law_matter", "_law_bit"]) (sc := defScope (topS 20)) (by decide +kernel))
          (fun _ _ _ _ _ => pg_name (i := 1) scLists.nd rfl (Or.inl rfl)) (fun _ _ _ _ _ => pts_nil) (fun _ _ _ _ _ => pe_has G hr (pa_cons (pv 1) pa_nil)))
      (pv 0))), ?_⟩
  refine ⟨_, rfl, (by show 2 ≤ sizeLine; decide), fun tp ntp => ?_⟩
  have s1 : Same H (upd H tp (.tup [.ty "list", .ty "tuple"])) := same_new ntp _
  refine ⟨_, tp, _, _, _, _, rfl, upd_same, .cons (.ty "list") (.cons (.ty "tuple") .nil), (hd.mono s1).ty, kitAny2 (kit_lst d) (kit_tup d), _, rfl, ?_⟩
  generalize upd H tp (.tup [.ty "list", .ty "tuple"]) = H1 at s1 ⊢
  have fin : ∀ {ds : List PyData} {H2 : Hp} {D : Addr} {ys : List V}, lstD d = .list (ds.map lstD) → H1 D = none → Same H1 H2 → H2 D = some (.lst ys) → DdAll (hide D (newer H1 H2)) ys (ds.map lstD) → Q (.ref D) H2 := by
    intro ds H2 D ys ef nD sm hD hys
    refine q _ _ (s1.trans sm) ?_
    rw [ef]
    refine .lst (newer_in (none_of_same s1 nD) hD) (hys.mono fun b o e => ?_)
    obtain ⟨h1, h2⟩ := newer_at (hide_sub _ _ e)
    exact newer_in (none_of_same s1 h1) h2
  cases hd with
  | @lst a xs ds h1 h2 =>
    obtain ⟨m, rfl, hlen, hall⟩ := wf_list hw
    refine iteT ?_
    have ha := s1 _ _ h1
    refine ⟨_, rfl, a, rfl, .inl ⟨⟨xs, .of ha⟩, fun D nD => ?_⟩⟩
    refine lc_new lstD (walk_list (K := K) (a := a)) (fun H2 s2 => .of (s2 _ _ ha)) (h2.mono s1) nD hlen (fun v => rfl) (fun v d' H2 R hm hv s2 r => ?_) (fun H2 ys s2 hD hys => ?_)
    · exact ⟨_, rfl, v, d', m, rfl, hv, hall d' hm, by omega, r⟩
    · exact fin (by rw [lstD, lstDs_map]) nD s2 hD hys
  | @tup a xs ds h1 h2 =>
    obtain ⟨m, rfl, hlen, hall⟩ := wf_tuple hw
    refine iteT ?_
    have ha := s1 _ _ h1
    refine ⟨_, rfl, a, rfl, .inr ⟨⟨xs, .of ha⟩, fun D nD => ?_⟩⟩
    refine lc_new lstD (walk_tup (K := K) (a := a)) (fun H2 s2 => .of (s2 _ _ ha)) (h2.mono s1) nD hlen (fun v => rfl) (fun v d' H2 R hm hv s2 r => ?_) (fun H2 ys s2 hD hys => ?_)
    · exact ⟨_, rfl, v, d', m, rfl, hv, hall d' hm, by omega, r⟩
    · exact fin (by rw [lstD, lstDs_map]) nD s2 hD hys
  | non =>
    refine iteF ?_
    exact ⟨_, rfl, q _ _ s1 .non⟩
  | bl b =>
    refine iteF ?_
    exact ⟨_, rfl, q _ _ s1 (.bl b)⟩
  | int i =>
    refine iteF ?_
    exact ⟨_, rfl, q _ _ s1 (.int i)⟩
  | str x =>
    refine iteF ?_
    exact ⟨_, rfl, q _ _ s1 (.str x)⟩
theorem lists_none : FnOk P w K mg base CX0 0 f fd ["_law_matter"] (spLists 0) := by
  have no : ∀ vs H Q E, ¬ spLists 0 vs H Q E := fun vs H Q E h => by
    obtain ⟨v, d, n, _, _, _, h1, _⟩ := h
    omega
  exact ⟨fun vs H Q E h => absurd h (no vs H Q E), fun A outer s H args us vs Q E _ _ _ _ h => absurd h (no vs H Q E)⟩
end
end Lf

set_option maxHeartbeats 4000000
namespace Lf
open PySem PySem.Spec PyProof.Rows L2

/-! ## texts in a list, tuples cut -/
theorem inV_strs (x : Str) (l : List Str) : inV (.str x) (l.map V.str) = decide (x ∈ l) := by
  unfold inV
  induction l with
  | nil => simp
  | cons y l ih =>
    rw [List.map_cons, List.any_cons, ih]
    have e : eqV (.str y) (.str x) = decide (y = x) := by
      show (y == x) = _
      by_cases h : y = x
      · rw [h, decide_eq_true rfl]
        exact beq_self_eq_true x
      · rw [decide_eq_false h]
        exact beq_false_of_ne h
    rw [e]
    by_cases h : y = x
    · simp [h]
    · have h' : ¬ x = y := fun z => h z.symm
      simp [h, h']
theorem flat_strs (l : List Str) : (l.map V.str).all flatV = true := by
  rw [List.all_eq_true]
  intro x hx
  obtain ⟨y, _, rfl⟩ := List.mem_map.mp hx
  rfl
theorem cut_any {K : PySem.W.Frag} {H : Hp} {a : Addr} {xs : List V} {lo hi : Option Int} {Q : VK} (h : H a = some (.tup xs)) (q : ∀ p H', Same H H' → H' p = some (.tup (cutV xs lo hi)) → Q (.ref p) H') : rSlA K (.ref a) lo hi H Q :=
  ⟨a, xs, rfl, .of h, fun e => q a H (.refl H) (by
    have e2 : cutV xs lo hi = xs := by
      unfold cutV
      rw [e.1, e.2, List.drop_zero, Nat.sub_zero, List.take_length]
    rw [e2]
    exact h), fun _ p hp => q p _ (same_new hp _) upd_same⟩
def rSlC : V → Option Int → Option Int → Hp → VK → Prop := fun x lo hi H Q => ∃ a xs, x = .ref a ∧ H a = some (.tup xs) ∧ ∀ p H', Same H H' → H' p = some (.tup (cutV xs lo hi)) → Q (.ref p) H'
theorem sl_tupC {X : Cx} : SlR X rSlC := by
  intro pins s σ H x v vl vu lo hi sl Q I rx hs pl pu h
  obtain ⟨a, xs, rfl, hx, q⟩ := h
  have z : rSlA X.K (.ref a) lo hi H Q := cut_any hx q
  exact sl_tupA pins s σ H _ v vl vu lo hi sl Q I rx hs pl pu z
theorem str_at {l : List Str} {i : Nat} {x : V} (h : (l.map V.str)[i]? = some x) : ∃ k, l[i]? = some k ∧ x = .str k := by
  rw [List.getElem?_map] at h
  cases e : l[i]? with
  | none => rw [e] at h; cases h
  | some k =>
    rw [e] at h
    exact ⟨k, rfl, (Option.some.inj h).symm⟩
theorem eqv_nil_list : ∀ ds : List PyData, PyData.eqv (.list ds) (.list []) = ds.isEmpty
  | [] => by simp [PyData.eqv, PyData.eqvAll]
  | _ :: _ => by simp [PyData.eqv, PyData.eqvAll]
theorem lots_shaped {ls : List (List Str)} (h : ∀ l ∈ ls, OkN l) : SeqAt.shaped (.list (ls.map lotT)) = true := by
  have k1 : ∀ {ls : List (List Str)}, (∀ l ∈ ls, OkN l) → PyData.canLayAll0 (ls.map lotT) = true ∧ PyData.depthAll (ls.map lotT) ≤ 2 := by
    intro ls
    induction ls with
    | nil => exact fun _ => ⟨by simp [PyData.canLayAll0], by simp [PyData.depthAll]⟩
    | cons l ls ih =>
      intro h
      obtain ⟨a, b⟩ := ih fun k hk => h k (List.mem_cons_of_mem _ hk)
      refine ⟨?_, ?_⟩
      · rw [List.map_cons, PyData.canLayAll0, a, keyD_lay (lot_key (h l List.mem_cons_self)).key]
        rfl
      · have := depth_strs l
        simp only [List.map_cons, PyData.depthAll, lotT, PyData.depth]
        omega
  obtain ⟨a, b⟩ := k1 h
  show (PyData.canLay0 (.list _) && decide (PyData.depth (.list _) ≤ 64)) = true
  rw [Bool.and_eq_true]
  refine ⟨by rw [PyData.canLay0]; exact a, decide_eq_true ?_⟩
  rw [PyData.depth]
  omega
/-! ## tags -/
def names8 : List Str := ["a", "b", "c", "d", "aa", "ab", "isle", "zzzzzzzz"]
theorem names_ok : OkN names8 := by decide +kernel
theorem names_nd : names8.Nodup := by decide +kernel
theorem asc_of {l : List Str} (h : sortedS l = true) (hn : l.Nodup) : AscS l := by
  refine List.Pairwise.imp_of_mem (fun {a b} _ _ q => ?_) ((sortedS_pw h).and hn)
  cases c : ltB a b with
  | true => rfl
  | false => exact absurd (ltB_anti c q.1) q.2
def vS : V → Str | .str x => x | _ => Str.ofString ""
theorem strs_back {ys rs : List V} {l : List Str} (h : (ys ++ rs).Perm (l.map V.str)) : ∃ ss ts : List Str, ys = ss.map V.str ∧ (ss ++ ts).Perm l := by
  refine ⟨ys.map vS, rs.map vS, ?_, ?_⟩
  · rw [List.map_map]
    refine (List.map_id ys).symm.trans (List.map_congr_left fun y hy => ?_)
    obtain ⟨x, _, rfl⟩ := List.mem_map.mp (h.mem_iff.mp (List.mem_append_left _ hy))
    rfl
  · have z := h.map vS
    rw [List.map_append, List.map_map] at z
    have e : l.map (vS ∘ V.str) = l := (List.map_congr_left (g := id) fun x _ => rfl).trans (List.map_id l)
    rw [e] at z
    exact z
structure TagsOk (ts : List Str) : Prop where
  asc : AscS ts
  lo : 1 ≤ ts.length
  hi : ts.length ≤ 5
  ok : OkN ts
  len : ∀ t ∈ ts, t.length ≤ 1000
def spTags : Sp := fun vs H Q _ => ∃ u n, vs = [.ref u, .int 5] ∧ Urn (n + 9) u H ∧ ∀ ts p H', TagsOk ts → Kept u H H' → Urn n u H' → hide u H' p = some (.tup (ts.map V.str)) → Q (.ref p) H'
section
variable {P : Program} {w : World} {K : PySem.W.Frag} {mg : Str → Option Value} {base : Heap} {f : Addr} {fd : FuncData}
theorem scTags : FnScope ["_law_tub", "_law_most"] ["_law_tub", "_law_most"] (defScope (topS 21)) := ⟨rfl, rfl, rfl, by decide +kernel, rfl, by decide +kernel, by decide +kernel⟩
theorem ok_tags (B : Bts mg) (gT : Has P w K mg base 1 "_law_take" ["_law_tub", "_law_under"] spTake) (gP : Has P w K mg base 2 "_law_pick" ["_law_tub", "_law_some", "_law_many"] spPick) (F : Fun K "_law_tags" "_law_tags" (topS 21) f fd) : FnOk P w K mg base CX0 3 f fd ["_law_tub", "_law_most"] spTags := by
  refine F.ok scTags (fun vs H Q E h => ?_) (fun cdv A outer s H vs Q E hr h => ?_)
  · obtain ⟨u, n, rfl, _⟩ := h
    rfl
  obtain ⟨u, n, rfl, hu, q⟩ := h
  refine ⟨_, pss_one (ps_ret (pe_callTy call_tuple_of (by rfl) B.tuple (by decide +kernel) (pa_cons (pe_callB cr_sortedS (by rfl) B.sorted (by decide +kernel) (pa_cons
    (pe_has gP hr (pa_cons (pv 0) (pa_cons (pe_lst (pa_cons pe_str (pa_cons pe_str (pa_cons pe_str (pa_cons pe_str (pa_cons pe_str (pa_cons pe_str (pa_cons pe_str (pa_cons pe_str pa_nil)))))))))
      (pa_cons (pe_op op_add pe_int (pe_has gT (hr.mono (by decide)) (pa_cons (pv 0) (pa_cons (pv 1) pa_nil)))) pa_nil)))) pa_nil)) pa_nil))), ?_⟩
  refine ⟨_, rfl, (by show 8 ≤ sizeLine; decide), fun l nl => ?_⟩
  have s1 := same_new nl (.lst (names8.map V.str))
  have e1 : upd H l (.lst (names8.map V.str)) l = some (.lst (names8.map V.str)) := upd_same
  have hlu : l ≠ u := ne_urn hu nl
  refine ⟨_, rfl, _, rfl, u, 5, n + 8, rfl, (hu.same s1), by decide, by decide, fun r H2 r0 r5 k2 u2 => ?_⟩
  obtain ⟨rn, rfl⟩ : ∃ rn : Nat, r = (rn : Int) := ⟨r.toNat, by omega⟩
  refine ⟨_, _, rfl, rfl, u, l, names8.map V.str, 1 + rn, n, ?_, u2, k2 _ _ (hide_in hlu e1), (by show 8 ≤ 100; decide), fun ys p H3 hp hl k3 u3 hy => ?_⟩
  · show [V.ref u, V.ref l, V.int (1 + (rn : Int))] = _
    rw [show (1 : Int) + (rn : Int) = ((1 + rn : Nat) : Int) by omega]
  obtain ⟨rs, hp⟩ := hp
  obtain ⟨ss, tl, rfl, pm⟩ := strs_back hp
  rw [List.length_map, List.length_map] at hl
  have hl8 : names8.length = 8 := rfl
  have hy3 : H3 p = some (.lst (ss.map V.str)) := hide_sub _ _ hy
  refine ⟨p, ss, rfl, .of hy3, by omega, fun ts p2 pm2 hs np2 => ?_⟩
  have snd : ss.Nodup := by
    have := pm.nodup_iff.mpr names_nd
    rw [List.nodup_append] at this
    exact this.1
  have tin : ∀ t ∈ ts, t ∈ names8 := fun t ht => pm.mem_iff.mp (List.mem_append_left _ (pm2.mem_iff.mp ht))
  have ok : TagsOk ts := ⟨asc_of hs (pm2.nodup_iff.mpr snd), by rw [pm2.length_eq]; omega, by rw [pm2.length_eq]; omega, fun t ht => names_ok t (tin t ht), fun t ht => (show ∀ t ∈ names8, t.length ≤ 1000 by decide +kernel) t (tin t ht)⟩
  have s4 := same_new np2 (.lst (ts.map V.str))
  refine ⟨p2, _, rfl, .inl ⟨.of upd_same, fun p3 np3 => ?_⟩⟩
  have s5 := s4.trans (same_new np3 (.tup (ts.map V.str)))
  have hp3 : p3 ≠ u := ne_urn (u3.same s4) np3
  exact q ts p3 _ ok ((hide_mono s1).trans (k2.trans (k3.trans (hide_mono s5)))) (u3.same s5) (hide_in hp3 upd_same)
end
end Lf

set_option maxHeartbeats 4000000
namespace Lf
open PySem PySem.Spec PyProof.Rows L2

/-! ## twos -/
def twoK (ts : List Str) (i : Nat) : List (Str × Str) := match ts[i]? with | some t => (ts.drop (i + 1)).map fun u => (t, u) | none => []
def twosK (ts : List Str) (n : Nat) : List (Str × Str) := (List.range n).flatMap (twoK ts)
theorem twosK_next (ts : List Str) (n : Nat) : twosK ts (n + 1) = twosK ts n ++ twoK ts n := by
  unfold twosK
  rw [List.range_succ, List.flatMap_append]
  simp
theorem twosK_cons (t : Str) (ts : List Str) (n : Nat) : twosK (t :: ts) (n + 1) = ts.map (fun u => (t, u)) ++ twosK ts n := by
  induction n with
  | zero => simp [twosK, twoK]
  | succ n ih =>
    rw [twosK_next, ih, twosK_next, List.append_assoc]
    rfl
theorem twosK_all : ∀ ts : List Str, twosK ts ts.length = twosL ts
  | [] => rfl
  | t :: ts => by
    rw [List.length_cons, twosK_cons, twosK_all ts]
    rfl
def spLTwos : Sp := fun vs H Q _ => ∃ a ts, vs = [.ref a] ∧ H a = some (.tup (ts.map V.str)) ∧ ts.length ≤ 30 ∧ ∀ p zs H', Same H H' → H p = none → H' p = some (.lst zs) → DdAll H' zs ((twosL ts).map pairT) → Q (.ref p) H'
section
variable {P : Program} {w : World} {K : PySem.W.Frag} {mg : Str → Option Value} {base : Heap} {f : Addr} {fd : FuncData}
abbrev nTwos : List Str := ["_law_tags_here", "_law_found", "_law_k", "_law_tag", "_law_far"]
theorem scTwos : FnScope nTwos ["_law_tags_here"] (defScope (topS 22)) := ⟨rfl, rfl, rfl, by decide +kernel, rfl, by decide +kernel, by decide +kernel⟩
theorem ok_twos (B : Bts mg) (F : Fun K "_law_twos" "_law_twos" (topS 22) f fd) : FnOk P w K mg base CX0 1 f fd ["_law_tags_here"] spLTwos := by
  refine F.ok scTwos (fun vs H Q E h => ?_) (fun cdv A outer s H vs Q E hr h => ?_)
  · obtain ⟨a, ts, rfl, _⟩ := h
    rfl
  obtain ⟨a, ts, rfl, ha, hl, q⟩ := h
  refine ⟨_, pss_cons (ps_set (i := 1) scTwos.nd rfl (Or.inl rfl) (pe_lst pa_nil))
    (pss_cons (ps_for PassesOwn.never rfl (pi_enumT (by rfl) B.enum (pa_cons (pv 0) pa_nil)) (pg_tup rfl (pgs_cons (pg_name (i := 2) scTwos.nd rfl (Or.inl rfl)) (pgs_cons (pg_name (i := 3) scTwos.nd rfl (Or.inr rfl)) pgs_nil)))
      (pss_one (ps_set (i := 1) scTwos.nd rfl (Or.inl rfl) (pe_op op_cat (pv 1)
        (pe_lc (own := [("_law_far", 4)]) (g := gName 4) rfl scTwos.nd (pi_tup (pe_slice sl_tupC (pv 0) (po_some (pe_op op_add (pv 2) pe_int)) po_none)) (blkOk_by (own := [("_law_far", 4)]) (N := nTwos) (sc := defScope (topS 22)) (by decide +kernel))
          (fun _ _ _ _ _ => pg_name (i := 4) scTwos.nd rfl (Or.inl rfl)) (fun _ _ _ _ _ => pts_nil) (fun _ _ _ _ _ => pe_tup (pa_cons (pv 3) (pa_cons (pv 4) pa_nil))))))))
    (pss_one (ps_ret (pv 1)))), ?_⟩
  refine ⟨Nat.zero_le _, fun g0 ng0 => ?_⟩
  have s0 := same_new ng0 (.lst [])
  have e0 : upd H g0 (.lst []) g0 = some (.lst []) := upd_same
  generalize upd H g0 (.lst []) = H0 at s0 e0 ⊢
  refine ⟨_, rfl, a, _, rfl, .of (s0 _ _ ha), ?_⟩
  have hlen : (ts.map V.str).length = ts.length := List.length_map _
  refine for_it (walk_enumT (K := K) (a := a) (xs := ts.map V.str)) (fun i σ H2 => ∃ g zs t2 t3 t4, σ = [some (.ref a), some (.ref g), t2, t3, t4] ∧ Same H H2 ∧ H g = none ∧ H2 g = some (.lst zs) ∧ zs.length ≤ i * 30 ∧ DdAll H2 zs ((twosK ts i).map pairT))
    ⟨g0, [], none, none, none, rfl, s0, ng0, e0, Nat.zero_le _, .nil⟩ (fun i σ H2 _ hP => ?_) (fun i x σ H2 H3 hi hP hY => ?_) (fun σ H2 hP => ?_)
  · obtain ⟨g, zs, t2, t3, t4, _, s, _⟩ := hP
    exact .of (s _ _ ha)
  · obtain ⟨T, x1, x2, rfl, nT, rfl, e1, e2⟩ := hY
    obtain ⟨g, zs, t2, t3, t4, rfl, sm, ngH, hg, hz, hzs⟩ := hP
    have ex1 : x1 = .int (i : Nat) := (Option.some.inj e1).symm
    subst ex1
    obtain ⟨t, ht, rfl⟩ := str_at e2
    rw [hlen] at hi
    have s5 := same_new nT (.tup [.int (i : Nat), .str t])
    refine ⟨T, _, rfl, .of upd_same, rfl, _, _, rfl, _, _, rfl, rfl, ?_⟩
    have hg5 := s5 _ _ hg
    have hz5 := hzs.mono s5
    have sm5 := sm.trans s5
    generalize upd H2 T (.tup [.int (i : Nat), .str t]) = H5 at s5 hg5 hz5 sm5 ⊢
    refine ⟨_, rfl, _, rfl, _, rfl, _, _, rfl, rfl, _, rfl, a, _, rfl, sm5 _ _ ha, fun p H6 s6 hp => ?_⟩
    have ecut : cutV (ts.map V.str) (some ((i : Int) + 1)) none = (ts.drop (i + 1)).map V.str := by
      have h := cutV_from (ts.map V.str) (i + 1)
      rw [show ((i + 1 : Nat) : Int) = (i : Int) + 1 by omega] at h
      rw [h, List.map_drop]
    rw [ecut] at hp
    refine ⟨p, rfl, ⟨_, .of hp⟩, fun D nD => ?_⟩
    have hdl : ((ts.drop (i + 1)).map V.str).length = (ts.drop (i + 1)).length := List.length_map _
    refine lc_it (walk_tup (K := K) (a := p) (xs := (ts.drop (i + 1)).map V.str)) (fun j H7 => Same H6 H7 ∧ ∃ ys, H7 D = some (.lst ys) ∧ ys.length ≤ j ∧ DdAll (hide D H7) ys (((ts.drop (i + 1)).take j).map fun u => pairT (t, u)))
      ⟨same_new nD _, [], upd_same, Nat.zero_le _, .nil⟩ (fun j H7 _ hP => .of (hP.1 _ _ hp)) (fun j x H7 H8 hj hP hY => ?_) (fun H7 hP => ?_)
    · obtain ⟨rfl, hx⟩ := hY
      obtain ⟨s7, ys, hD, hy, hys⟩ := hP
      obtain ⟨v, hv, rfl⟩ := str_at hx
      refine ⟨rfl, yes ?_⟩
      rw [if_pos rfl]
      refine ⟨_, rfl, _, rfl, (by show 2 ≤ sizeLine; decide), fun t8 n8 => ?_⟩
      have s9 := same_new n8 (.tup [V.str t, V.str v])
      have e9 : upd H8 t8 (.tup [V.str t, V.str v]) t8 = some (.tup [V.str t, V.str v]) := upd_same
      have tD : t8 ≠ D := fun e => by
        rw [e, hD] at n8
        cases n8
      generalize upd H8 t8 (.tup [V.str t, V.str v]) = H9 at s9 e9 ⊢
      rw [hdl, List.length_drop] at hj
      refine ⟨ys, s9 _ _ hD, small1000 (by omega), same_upd (s7.trans s9) nD _, ys ++ [.ref t8], upd_same, ?_, ?_⟩
      · rw [List.length_append, List.length_singleton]
        omega
      · rw [List.take_add_one, hv, List.map_append, hide_upd]
        exact (hys.mono (hide_mono s9)).append (.cons (.tup (hide_in tD e9) (.cons (.str t) (.cons (.str v) .nil))) .nil)
    · obtain ⟨s7, ys, hD, hy, hys⟩ := hP
      rw [hdl] at hy
      rw [List.take_of_length_le (by rw [hdl]; exact Nat.le_refl _)] at hys
      rw [List.length_drop] at hy
      have s67 := s6.trans s7
      refine ⟨g, D, zs, ys, rfl, rfl, s67 _ _ hg5, hD, by rw [sizeLine_eq]; omega, fun g2 ng2 => ?_⟩
      have s10 := same_new ng2 (.lst (zs ++ ys))
      refine ⟨g2, zs ++ ys, _, _, _, rfl, sm5.trans (s67.trans s10), none_of_same (sm5.trans s67) ng2, upd_same, ?_, ?_⟩
      · rw [List.length_append]
        omega
      · rw [twosK_next, List.map_append]
        have et : twoK ts i = (ts.drop (i + 1)).map fun u => (t, u) := by
          unfold twoK
          rw [ht]
        rw [et, List.map_map]
        exact (hz5.mono (s67.trans s10)).append ((hys.mono hide_sub).mono s10)
  · obtain ⟨g, zs, t2, t3, t4, rfl, sm, ngH, hg, hz, hzs⟩ := hP
    rw [hlen, twosK_all] at hzs
    exact ⟨_, rfl, q g zs H2 sm ngH hg hzs⟩

/-! ## joins -/
def spLJoins : Sp := fun vs H Q _ => ∃ (v u : V) (ls : List (List Str)) (a b : Str), vs = [v, u] ∧ Dd H v (.tuple (ls.map lotT)) ∧ Dd H u (pairT (a, b)) ∧ (∀ l ∈ ls, OkN l) ∧ ls.length ≤ 100 ∧ ∀ H', Same H H' → Q (.bl (ls.any fun l => decide (a ∈ l) && decide (b ∈ l))) H'
abbrev nLJ : List Str := ["_law_own", "_law_two_so", "_law_lot"]
theorem scLJ : FnScope nLJ ["_law_own", "_law_two_so"] (defScope (topS 23)) := ⟨rfl, rfl, rfl, by decide +kernel, rfl, by decide +kernel, by decide +kernel⟩
theorem ok_ljoins (B : Bts mg) (F : Fun K "_law_joins" "_law_joins" (topS 23) f fd) : FnOk P w K mg base CX0 1 f fd ["_law_own", "_law_two_so"] spLJoins := by
  refine F.ok scLJ (fun vs H Q E h => ?_) (fun cdv A outer s H vs Q E hr h => ?_)
  · obtain ⟨v, u, ls, a, b, rfl, _⟩ := h
    rfl
  obtain ⟨v, u, ls, a, b, rfl, hv, hu, hok, hl, q⟩ := h
  refine ⟨_, pss_one (ps_ret (pe_cmpR (op_neD hr.units)
    (pe_lc (own := [("_law_lot", 2)]) (g := gName 2) rfl scLJ.nd (pi_tup (pv 0)) (blkOk_by (own := [("_law_lot", 2)]) (N := nLJ) (sc := defScope (topS 23)) (by decide +kernel))
      (fun _ _ _ _ _ => pg_name (i := 2) scLJ.nd rfl (Or.inl rfl))
      (fun _ _ _ _ _ => pts_one (PW.pt (pw_and (pt_cmpR (show OpR _ (compareOp .In) (rIn K false) from op_in_seq) (show PE _ _ (tOp (rIxT K) (tVar 1) (tC (.int 0))) from pe_ix ix_tup (pv 1) pe_int (fun _ _ => rfl)) (pv 2) (by rfl))
        (pw_and1 (pt_cmpR (show OpR _ (compareOp .In) (rIn K false) from op_in_seq) (show PE _ _ (tOp (rIxT K) (tVar 1) (tC (.int 1))) from pe_ix ix_tup (pv 1) pe_int (fun _ _ => rfl)) (pv 2) (by rfl))))))
      (fun _ _ _ _ _ => pv 2)) (pe_lst pa_nil) (nomark _))), ?_⟩
  cases hv with
  | @tup va xs _ h1 h2 =>
    cases hu with
    | @tup ua us _ g1 g2 =>
      have eus := dd_strs (l := [a, b]) g2
      subst eus
      have hx := h2.length
      rw [List.length_map] at hx
      refine ⟨_, rfl, va, rfl, ⟨_, .of h1⟩, fun D nD => ?_⟩
      refine lc_it (walk_tup (K := K) (a := va) (xs := xs)) (fun i H2 => Same H H2 ∧ ∃ ys, H2 D = some (.lst ys) ∧ ys.length ≤ i ∧ DdAll H ys (((ls.take i).filter fun l => decide (a ∈ l) && decide (b ∈ l)).map lotT))
        ⟨same_new nD _, [], upd_same, Nat.zero_le _, .nil⟩ (fun i H2 _ hP => .of (hP.1 _ _ h1)) (fun i x H2 H3 hi hP hY => ?_) (fun H2 hP => ?_)
      · obtain ⟨rfl, hxi⟩ := hY
        obtain ⟨sm, ys, hD, hy, hys⟩ := hP
        obtain ⟨l, c, el, rfl, hc⟩ := lots_at h2 hxi
        have enx : (ls.take (i + 1)).filter (fun l => decide (a ∈ l) && decide (b ∈ l)) = (ls.take i).filter (fun l => decide (a ∈ l) && decide (b ∈ l)) ++ (if (decide (a ∈ l) && decide (b ∈ l)) = true then [l] else []) := by
          rw [List.take_add_one, el, List.filter_append]
          congr 1
          show [l].filter _ = _
          rw [List.filter_cons]
          split <;> rfl
        have keep : (decide (a ∈ l) && decide (b ∈ l)) = false → Same H H3 ∧ ∃ ys, H3 D = some (.lst ys) ∧ ys.length ≤ i + 1 ∧ DdAll H ys (((ls.take (i + 1)).filter fun l => decide (a ∈ l) && decide (b ∈ l)).map lotT) := fun c => by
          rw [c, if_neg (by simp), List.append_nil] at enx
          rw [enx]
          exact ⟨sm, ys, hD, by omega, hys⟩
        refine ⟨rfl, _, rfl, ua, _, _, _, rfl, rfl, .of (sm _ _ g1), atI_nat (j := 0) rfl, _, rfl, c, _, rfl, .inr (.of (sm _ _ hc)), rfl, flat_strs l, _, rfl, ?_⟩
        show (if (inV (.str a) (l.map V.str)) = true then _ else _)
        rw [inV_strs]
        by_cases c1 : a ∈ l
        · rw [decide_eq_true c1]
          refine iteT ⟨_, rfl, ua, _, _, _, rfl, rfl, .of (sm _ _ g1), atI_nat (j := 1) rfl, _, rfl, c, _, rfl, .inr (.of (sm _ _ hc)), rfl, flat_strs l, _, rfl, ?_⟩
          show (if (inV (.str b) (l.map V.str)) = true then _ else _)
          rw [inV_strs]
          by_cases c2 : b ∈ l
          · rw [decide_eq_true c2]
            rw [decide_eq_true c1, decide_eq_true c2, if_pos (by rfl)] at enx
            refine iteT ⟨_, rfl, ys, hD, small1000 (by omega), same_upd sm nD _, ys ++ [.ref c], upd_same, ?_, ?_⟩
            · rw [List.length_append, List.length_singleton]
              omega
            · rw [enx, List.map_append]
              obtain ⟨d, gd, kd⟩ := h2.get hxi
              rw [List.getElem?_map, el] at gd
              cases gd
              exact hys.append (.cons kd .nil)
          · rw [decide_eq_false c2]
            exact iteF (keep (by rw [decide_eq_false c2, Bool.and_false]))
        · rw [decide_eq_false c1]
          exact iteF (iteF (keep (by rw [decide_eq_false c1, Bool.false_and])))
      · obtain ⟨sm, ys, hD, hy, hys⟩ := hP
        rw [List.take_of_length_le (by omega)] at hys
        refine ⟨Nat.zero_le _, fun z nz => ?_⟩
        have s3 := sm.trans (same_new nz (.lst []))
        refine ⟨_, .list [], (Dd.lst ((same_new nz (.lst [])) _ _ hD) (hys.mono s3)).dp, (Dd.lst upd_same .nil).dp, lots_shaped fun l hl => hok l (List.mem_filter.mp hl).1, by decide +kernel, ?_⟩
        rw [eqv_nil_list]
        have e : (!(List.map lotT (ls.filter fun l => decide (a ∈ l) && decide (b ∈ l))).isEmpty) = ls.any fun l => decide (a ∈ l) && decide (b ∈ l) := by
          rw [List.isEmpty_map]
          cases h : ls.any fun l => decide (a ∈ l) && decide (b ∈ l) with
          | true =>
            obtain ⟨l, hl, hc⟩ := List.any_eq_true.mp h
            have : l ∈ ls.filter fun l => decide (a ∈ l) && decide (b ∈ l) := List.mem_filter.mpr ⟨hl, hc⟩
            cases h2 : ls.filter fun l => decide (a ∈ l) && decide (b ∈ l) with
            | nil => rw [h2] at this; cases this
            | cons _ _ => rfl
          | false =>
            rw [List.filter_eq_nil_iff.mpr fun l hl hc => by
              have : (ls.any fun l => decide (a ∈ l) && decide (b ∈ l)) = true := List.any_eq_true.mpr ⟨l, hl, hc⟩
              rw [h] at this
              cases this]
            rfl
        rw [e]
        exact q _ s3
end
end Lf

set_option maxHeartbeats 4000000
namespace Lf
open PySem PySem.Spec PyProof.Rows L2

/-! ## reach -/
def spReach : Sp := fun vs H Q _ => ∃ (a b : Addr) (ts : List Str) (xs : List V) (ps : List (Str × Str)) (i : Str), vs = [.ref a, .ref b, .str i] ∧ H a = some (.tup (ts.map V.str)) ∧ H b = some (.tup xs) ∧ DdAll H xs (ps.map pairT) ∧
  i ∈ ts ∧ (∀ p ∈ ps, p.1 ∈ ts ∧ p.2 ∈ ts) ∧ ts.length ≤ 30 ∧ ∀ y ys H', Same H H' → ys.Perm (reachS ts ps i) → sortedS ys = true → Dd (newer H H') y (lotT ys) → Q y H'
def stepN (f : List Str) (p : Str × Str) : Nat → List Str
  | 0 => f
  | 1 => stepR f p
  | _ => pairR f p
theorem pair_at {H : Hp} {ps : List (Str × Str)} {xs : List V} {j : Nat} {x : V} (h : DdAll H xs (ps.map pairT)) (e : xs[j]? = some x) : ∃ p q, ps[j]? = some p ∧ x = .ref q ∧ H q = some (.tup [.str p.1, .str p.2]) := by
  obtain ⟨d, g1, k1⟩ := h.get e
  rw [List.getElem?_map] at g1
  cases el : ps[j]? with
  | none => rw [el] at g1; cases g1
  | some p =>
    rw [el] at g1
    cases g1
    cases k1 with
    | tup h1 h2 => exact ⟨p, _, rfl, rfl, by rw [h1, dd_strs (l := [p.1, p.2]) h2]; rfl⟩
structure RcOk (ts f : List Str) : Prop where
  nd : f.Nodup
  sub : ∀ x ∈ f, x ∈ ts
theorem RcOk.len {ts f : List Str} (h : RcOk ts f) : f.length ≤ ts.length := nodup_sub h.nd h.sub
theorem RcOk.step {ts f : List Str} {p : Str × Str} (h : RcOk ts f) (hp : p.1 ∈ ts ∧ p.2 ∈ ts) : RcOk ts (stepR f p) := ⟨stepR_nd h.nd, stepR_inv h.sub fun _ => hp.2⟩
theorem foldl_next {ps : List (Str × Str)} {j : Nat} {p : Str × Str} (h : ps[j]? = some p) (f : List Str) : (ps.take (j + 1)).foldl pairR f = pairR ((ps.take j).foldl pairR f) p := by
  rw [List.take_add_one, h, List.foldl_append]
  rfl
section
variable {P : Program} {w : World} {K : PySem.W.Frag} {mg : Str → Option Value} {base : Heap} {f : Addr} {fd : FuncData}
abbrev nReach : List Str := ["_law_tags_here", "_law_some", "_law_tag", "_law_found", "_law_lap", "_law_near", "_law_far", "_law_mine", "_law_its"]
theorem scReach : FnScope nReach ["_law_tags_here", "_law_some", "_law_tag"] (defScope (topS 24)) := ⟨rfl, rfl, rfl, by decide +kernel, rfl, by decide +kernel, by decide +kernel⟩
theorem ok_reach (B : Bts mg) (F : Fun K "_law_reach" "_law_reach" (topS 24) f fd) : FnOk P w K mg base CX0 1 f fd ["_law_tags_here", "_law_some", "_law_tag"] spReach := by
  refine F.ok scReach (fun vs H Q E h => ?_) (fun cdv A outer s H vs Q E hr h => ?_)
  · obtain ⟨a, b, ts, xs, ps, i, rfl, _⟩ := h
    rfl
  obtain ⟨a, b, ts, xs, ps, i, rfl, ha, hb, hps, hi, hin, hl, q⟩ := h
  refine ⟨_, pss_cons (ps_set (i := 3) scReach.nd rfl (Or.inl rfl) (pe_lst (pa_cons (pv 2) pa_nil)))
    (pss_cons (ps_for PassesOwn.never rfl (pi_tup (pv 0)) (pg_name (i := 4) scReach.nd rfl (Or.inl rfl))
      (pss_one (ps_for PassesOwn.never rfl (pi_tup (pv 1)) (pg_tup rfl (pgs_cons (pg_name (i := 5) scReach.nd rfl (Or.inl rfl)) (pgs_cons (pg_name (i := 6) scReach.nd rfl (Or.inl rfl)) pgs_nil)))
        (pss_one (ps_for PassesOwn.never rfl (pi_tup (pe_tup (pa_cons (pe_tup (pa_cons (pv 5) (pa_cons (pv 6) pa_nil))) (pa_cons (pe_tup (pa_cons (pv 6) (pa_cons (pv 5) pa_nil))) pa_nil))))
            (pg_tup rfl (pgs_cons (pg_name (i := 7) scReach.nd rfl (Or.inl rfl)) (pgs_cons (pg_name (i := 8) scReach.nd rfl (Or.inl rfl)) pgs_nil)))
          (pss_one (ps_if (PW.pt (pw_and (pt_cmpR op_in_seq (pv 7) (pv 3) (by rfl)) (pw_and1 (pt_cmpR op_notIn_seq (pv 8) (pv 3) (by rfl)))))
            (pss_one (ps_expr (pe_bm PySem.F.plainAttrs_list PySem.F.slot_list_append PySem.F.type_list_append mt_append (pv 3) (pa_cons (pv 8) pa_nil)))) pss_nil)))))))
    (pss_one (ps_ret (pe_callTy call_tuple_of (by rfl) B.tuple (by decide +kernel) (pa_cons (pe_callB cr_sortedS (by rfl) B.sorted (by decide +kernel) (pa_cons (pv 3) pa_nil)) pa_nil))))), ?_⟩
  refine ⟨_, rfl, (by show 1 ≤ sizeLine; decide), fun g ng => ?_⟩
  have s0 := same_new ng (.lst [V.str i])
  have e0 : upd H g (.lst [V.str i]) g = some (.lst ([i].map V.str)) := upd_same
  generalize upd H g (.lst [V.str i]) = H0 at s0 e0 ⊢
  refine ⟨_, rfl, a, rfl, ⟨_, .of (s0 _ _ ha)⟩, ?_⟩
  have hlen : (ts.map V.str).length = ts.length := List.length_map _
  have hxl := hps.length
  rw [List.length_map] at hxl
  have rc0 : RcOk ts [i] := ⟨by simp, fun x hx => by rw [List.mem_singleton.mp hx]; exact hi⟩
  refine for_it (walk_tup (K := K) (a := a) (xs := ts.map V.str)) (fun n σ H2 => ∃ t4 t5 t6 t7 t8, σ = [some (.ref a), some (.ref b), some (.str i), some (.ref g), t4, t5, t6, t7, t8] ∧ Same H H2 ∧ H2 g = some (.lst ((goR ps i n).map V.str)) ∧ RcOk ts (goR ps i n))
    ⟨none, none, none, none, none, rfl, s0, e0, rc0⟩ (fun n σ H2 _ hP => ?_) (fun n x σ H2 H3 hn hP hY => ?_) (fun σ H2 hP => ?_)
  · obtain ⟨t4, t5, t6, t7, t8, _, s, _⟩ := hP
    exact .of (s _ _ ha)
  · obtain ⟨rfl, hx⟩ := hY
    obtain ⟨t4, t5, t6, t7, t8, rfl, sm, hg, rc⟩ := hP
    refine ⟨_, rfl, b, rfl, ⟨_, .of (sm _ _ hb)⟩, ?_⟩
    refine for_it (walk_tup (K := K) (a := b) (xs := xs)) (fun j σ H4 => ∃ t5 t6 t7 t8, σ = [some (.ref a), some (.ref b), some (.str i), some (.ref g), some x, t5, t6, t7, t8] ∧ Same H H4 ∧ H4 g = some (.lst (((ps.take j).foldl pairR (goR ps i n)).map V.str)) ∧ RcOk ts ((ps.take j).foldl pairR (goR ps i n)))
      ⟨t5, t6, t7, t8, rfl, sm, hg, rc⟩ (fun j σ H4 _ hP => ?_) (fun j y σ H4 H5 hj hP hY => ?_) (fun σ H4 hP => ?_)
    · obtain ⟨t5, t6, t7, t8, _, s, _⟩ := hP
      exact .of (s _ _ hb)
    · obtain ⟨rfl, hy⟩ := hY
      obtain ⟨t5, t6, t7, t8, rfl, sm4, hg4, rc4⟩ := hP
      obtain ⟨p, z, hp, rfl, hz⟩ := pair_at hps hy
      have pin := hin p (List.mem_of_getElem? hp)
      refine ⟨z, _, rfl, .of (sm4 _ _ hz), rfl, _, _, rfl, _, _, rfl, rfl, ?_⟩
      generalize hf : (ps.take j).foldl pairR (goR ps i n) = fo at hg4 rc4
      refine ⟨_, rfl, _, rfl, (by show 2 ≤ sizeLine; decide), fun q1 n1 => ⟨_, rfl, _, rfl, (by show 2 ≤ sizeLine; decide), fun q2 n2 => ⟨(by show 2 ≤ sizeLine; decide), fun q3 n3 => ?_⟩⟩⟩
      have s1 := same_new n1 (.tup [V.str p.1, V.str p.2])
      have e1 : upd H5 q1 (.tup [V.str p.1, V.str p.2]) q1 = some (.tup [V.str p.1, V.str p.2]) := upd_same
      have hg1 := s1 _ _ hg4
      generalize upd H5 q1 (.tup [V.str p.1, V.str p.2]) = H6 at s1 e1 hg1 n2 n3 ⊢
      have s2 := same_new n2 (.tup [V.str p.2, V.str p.1])
      have e2 : upd H6 q2 (.tup [V.str p.2, V.str p.1]) q2 = some (.tup [V.str p.2, V.str p.1]) := upd_same
      have e12 := s2 _ _ e1
      have hg2 := s2 _ _ hg1
      have s12 := sm4.trans (s1.trans s2)
      generalize upd H6 q2 (.tup [V.str p.2, V.str p.1]) = H7 at s2 e2 e12 hg2 s12 n3 ⊢
      have s3 := same_new n3 (.tup [V.ref q1, V.ref q2])
      have e3 : upd H7 q3 (.tup [V.ref q1, V.ref q2]) q3 = some (.tup [V.ref q1, V.ref q2]) := upd_same
      have e13 := s3 _ _ e12
      have e23 := s3 _ _ e2
      have hg3 := s3 _ _ hg2
      have s123 := s12.trans s3
      generalize upd H7 q3 (.tup [V.ref q1, V.ref q2]) = H8 at s3 e3 e13 e23 hg3 s123 ⊢
      have gH : H g = none := ng
      refine ⟨q3, rfl, ⟨_, .of e3⟩, ?_⟩
      refine for_it (walk_tup (K := K) (a := q3) (xs := [V.ref q1, V.ref q2])) (fun k σ H9 => ∃ t7 t8, σ = [some (.ref a), some (.ref b), some (.str i), some (.ref g), some x, some (.str p.1), some (.str p.2), t7, t8] ∧ Same H H9 ∧ (H9 q1 = some (.tup [V.str p.1, V.str p.2]) ∧ H9 q2 = some (.tup [V.str p.2, V.str p.1]) ∧ H9 q3 = some (.tup [V.ref q1, V.ref q2])) ∧ H9 g = some (.lst ((stepN fo p k).map V.str)) ∧ RcOk ts (stepN fo p k))
        ⟨t7, t8, rfl, s123, ⟨e13, e23, e3⟩, hg3, rc4⟩ (fun k σ H9 _ hP => ?_) (fun k y σ H9 H10 hk hP hY => ?_) (fun σ H9 hP => ?_)
      · obtain ⟨t7, t8, _, _, e, _⟩ := hP
        exact .of e.2.2
      · obtain ⟨rfl, hy9⟩ := hY
        obtain ⟨t7, t8, rfl, sm9, ⟨f1, f2, f3⟩, hg9, rc9⟩ := hP
        obtain ⟨qk, pr, rfl, hq, hst, pri⟩ : ∃ qk pr, y = .ref qk ∧ H10 qk = some (.tup [V.str pr.1, V.str pr.2]) ∧ stepN fo p (k + 1) = stepR (stepN fo p k) pr ∧ (pr.1 ∈ ts ∧ pr.2 ∈ ts) := by
          match k, hk, hy9 with
          | 0, _, h => exact ⟨q1, p, (Option.some.inj h).symm, f1, rfl, pin⟩
          | 1, _, h => exact ⟨q2, (p.2, p.1), (Option.some.inj h).symm, f2, rfl, pin.2, pin.1⟩
        have rcn := rc9.step pri
        have ln := rc9.len
        refine ⟨qk, _, rfl, .of hq, rfl, _, _, rfl, _, _, rfl, rfl, ?_⟩
        refine ⟨_, rfl, _, rfl, g, _, rfl, .inl (.of hg9), rfl, flat_strs _, _, rfl, ?_⟩
        have stay : ¬ (pr.1 ∈ stepN fo p k ∧ pr.2 ∉ stepN fo p k) → ∃ t7 t8, ([some (.ref a), some (.ref b), some (.str i), some (.ref g), some x, some (.str p.1), some (.str p.2), some (.str pr.1), some (.str pr.2)] : L2.St) = [some (.ref a), some (.ref b), some (.str i), some (.ref g), some x, some (.str p.1), some (.str p.2), t7, t8] ∧ Same H H10 ∧ (H10 q1 = some (.tup [V.str p.1, V.str p.2]) ∧ H10 q2 = some (.tup [V.str p.2, V.str p.1]) ∧ H10 q3 = some (.tup [V.ref q1, V.ref q2])) ∧ H10 g = some (.lst ((stepN fo p (k + 1)).map V.str)) ∧ RcOk ts (stepN fo p (k + 1)) := fun c => by
          have e : stepN fo p (k + 1) = stepN fo p k := by
            rw [hst]
            unfold stepR
            rw [if_neg c]
          rw [e]
          exact ⟨_, _, rfl, sm9, ⟨f1, f2, f3⟩, hg9, rc9⟩
        show (if (inV (.str pr.1) ((stepN fo p k).map V.str)) = true then _ else _)
        rw [inV_strs]
        by_cases c1 : pr.1 ∈ stepN fo p k
        · rw [decide_eq_true c1]
          refine iteT ⟨_, rfl, _, rfl, g, _, rfl, .inl (.of hg9), rfl, flat_strs _, _, rfl, ?_⟩
          show (if (!inV (.str pr.2) ((stepN fo p k).map V.str)) = true then _ else _)
          rw [inV_strs]
          by_cases c2 : pr.2 ∈ stepN fo p k
          · rw [decide_eq_true c2]
            exact iteF (stay fun h => h.2 c2)
          · rw [decide_eq_false c2]
            have e : stepN fo p (k + 1) = stepN fo p k ++ [pr.2] := by
              rw [hst]
              unfold stepR
              rw [if_pos ⟨c1, c2⟩]
            have gq : ∀ q, q = q1 ∨ q = q2 ∨ q = q3 → q ≠ g := fun q hq e => by
              rcases hq with z | z | z <;> subst z <;> subst e
              · rw [hg9] at f1; cases f1
              · rw [hg9] at f2; cases f2
              · rw [hg9] at f3; cases f3
            refine iteT ⟨_, rfl, .inl ⟨rfl, _, .of hg9⟩, _, rfl, g, _, _, rfl, rfl, hg9, ?_, _, _, rfl, same_upd sm9 ng _, ⟨?_, ?_, ?_⟩, ?_, ?_⟩
            · rw [List.length_map]
              exact small1000 (by omega)
            · rw [upd_ne (gq q1 (.inl rfl))]
              exact f1
            · rw [upd_ne (gq q2 (.inr (.inl rfl)))]
              exact f2
            · rw [upd_ne (gq q3 (.inr (.inr rfl)))]
              exact f3
            · rw [upd_same, e, List.map_append]
              rfl
            · rw [hst]
              exact rcn
        · rw [decide_eq_false c1]
          exact iteF (iteF (stay fun h => c1 h.1))
      · obtain ⟨t7, t8, rfl, sm9, _, hg9, rc9⟩ := hP
        refine ⟨_, _, _, _, rfl, sm9, ?_, ?_⟩
        · rw [foldl_next hp, hf]
          exact hg9
        · rw [foldl_next hp, hf]
          exact rc9
    · obtain ⟨t5, t6, t7, t8, rfl, sm4, hg4, rc4⟩ := hP
      rw [List.take_of_length_le (by omega)] at hg4 rc4
      exact ⟨_, _, _, _, _, rfl, sm4, hg4, rc4⟩
  · obtain ⟨t4, t5, t6, t7, t8, rfl, sm, hg, rc⟩ := hP
    rw [hlen] at hg rc
    refine ⟨_, rfl, g, _, rfl, .of hg, by have := rc.len; omega, fun ys r pm hs nr => ?_⟩
    have s4 := same_new nr (.lst (ys.map V.str))
    refine ⟨r, _, rfl, .inl ⟨.of upd_same, fun t nt => ?_⟩⟩
    have s5 := sm.trans s4
    exact q _ ys _ (s5.trans (same_new nt _)) pm hs (.tup (newer_in (none_of_same s5 nt) upd_same) (ddAll_strs ys))
end
end Lf

set_option maxHeartbeats 4000000
namespace Lf
open PySem PySem.Spec PyProof.Rows L2

/-! ## both ways lead to the same lots -/
theorem fine_ex : ∀ (ps ps0 : List (Str × Str)) (m : Str → Str), Fine ps0 m → ∃ m', Fine (ps0 ++ ps) m'
  | [], ps0, m, h => ⟨m, by rw [List.append_nil]; exact h⟩
  | p :: ps, ps0, m, h => by
    have e : ps0 ++ p :: ps = (ps0 ++ [p]) ++ ps := by rw [List.append_assoc]; rfl
    rw [e]
    by_cases c : m p.1 = m p.2
    · exact fine_ex ps _ m (h.keep c)
    · exact fine_ex ps _ _ (h.melt (.inl ⟨rfl, rfl⟩))
section
variable {ts : List Str} {ps : List (Str × Str)} {m m2 : Str → Str}
theorem lots_same (h : Fine ps m) (h2 : Fine ps m2) (hin : ∀ p ∈ ps, p.1 ∈ ts ∧ p.2 ∈ ts) : lotsD ts m2 = lotsD ts m := by
  unfold lotsD
  refine List.map_congr_left fun i hi => ?_
  congr 1
  unfold lotS
  refine List.filter_congr fun j hj => ?_
  exact decide_eq_decide.mpr ((reach_iff h2 hin hi j).symm.trans (reach_iff h hin hi j))
theorem reach_lot (h : Fine ps m) (ha : AscS ts) (hin : ∀ p ∈ ps, p.1 ∈ ts ∧ p.2 ∈ ts) {i : Str} (hi : i ∈ ts) {ys : List Str} (pm : ys.Perm (reachS ts ps i)) (hs : sortedS ys = true) : ys = lotS ts m i := by
  have hl : AscS (lotS ts m i) := List.Pairwise.sublist List.filter_sublist ha
  refine sorted_is hl (pm.trans ((List.perm_ext_iff_of_nodup (goR_nd _) hl.nd).mpr fun j => ?_)) hs
  rw [show (goR ps i ts.length) = reachS ts ps i from rfl, reach_iff h hin hi j, lotS_mem]
  constructor
  · intro e
    refine ⟨?_, e⟩
    exact goR_inv (P := fun x => x ∈ ts) hi (fun p hp => iff_of_true (hin p hp).1 (hin p hp).2) ts.length j ((reach_iff h hin hi j).mpr e)
  · exact fun e => e.2
def unS : PyData → Str | .str x => x | _ => Str.ofString ""
def unT : PyData → List Str | .tuple ds => ds.map unS | _ => []
theorem un_lot (l : List Str) : unT (lotT l) = l := by
  show (l.map PyData.str).map unS = l
  rw [List.map_map]
  exact (List.map_congr_left (g := id) fun x _ => rfl).trans (List.map_id l)
theorem lotT_inj {l k : List Str} (h : lotT l = lotT k) : l = k := by rw [← un_lot l, h, un_lot]
/-- the lots of the answer -/
theorem lots_of_asc {es : List PyData} (h : AscTo (lotsD ts m) es) : ∃ ls, es = ls.map lotT ∧ LotsOf ts m ls := by
  have each : ∀ e ∈ es, ∃ i ∈ ts, e = lotT (lotS ts m i) := fun e he => by
    obtain ⟨i, hi, rfl⟩ := List.mem_map.mp ((h.mem e).mp he)
    exact ⟨i, hi, rfl⟩
  have e1 : es = (es.map unT).map lotT := by
    rw [List.map_map]
    refine (List.map_id es).symm.trans (List.map_congr_left fun e he => ?_)
    obtain ⟨i, _, rfl⟩ := each e he
    show lotT _ = lotT (unT (lotT _))
    rw [un_lot]
  refine ⟨es.map unT, e1, ⟨?_, fun l => ?_⟩⟩
  · have hn := h.nd
    rw [e1] at hn
    exact List.Pairwise.of_map lotT (fun a b (q : lotT a ≠ lotT b) e => q (by rw [e])) hn
  · constructor
    · intro hl
      obtain ⟨e, he, rfl⟩ := List.mem_map.mp hl
      obtain ⟨i, hi, rfl⟩ := each e he
      exact ⟨i, hi, un_lot _⟩
    · rintro ⟨i, hi, rfl⟩
      have : lotT (lotS ts m i) ∈ es := (h.mem _).mpr (List.mem_map.mpr ⟨i, hi, rfl⟩)
      exact List.mem_map.mpr ⟨_, this, un_lot _⟩
theorem lots_key (hok : OkN ts) : ∀ d ∈ lotsD ts m, KeyT d := fun d hd => by
  obtain ⟨i, _, rfl⟩ := List.mem_map.mp hd
  exact lot_key fun j hj => hok j (lotS_mem.mp hj).1
theorem lots_al : PySem.W.AllAlike (lotsD ts m) := by
  have e : lotsD ts m = (ts.map fun i => lotS ts m i).map lotT := by
    unfold lotsD
    rw [List.map_map]
    rfl
  rw [e]
  exact lots_alike _
theorem lots_sortable : PySem.W.Sortable (lotsD ts m) := .inl fun d hd => by
  obtain ⟨i, hi, rfl⟩ := List.mem_map.mp hd
  have h := lotS_self (m := m) hi
  cases e : lotS ts m i with
  | nil => rw [e] at h; cases h
  | cons x r => exact ⟨.str x, r.map PyData.str, by rw [lotT]; rfl⟩
theorem lots_one (hok : OkN ts) {es fs : List PyData} (h : AscTo (lotsD ts m) es) (k : AscTo (lotsD ts m) fs) : es = fs := h.unique k (fun d hd => (lots_key hok d hd).key) lots_al
theorem pairs_same {ls : List (List Str)} (g : LotsOf ts m ls) (ha : AscS ts) : overL ltB ts (fun q => decide (markS ls q.1 = markS ls q.2)) = (twosL ts).filter fun q => ls.any fun l => decide (q.1 ∈ l) && decide (q.2 ∈ l) := by
  rw [overL_twos ltB_irr ltB_asym _ ha]
  refine List.filter_congr fun q hq => ?_
  obtain ⟨h1, h2, _⟩ := twosL_mem ha q hq
  have z := (g.marks h1 h2).trans (g.joins h1 h2).symm
  rw [Bool.eq_iff_iff, decide_eq_true_eq, List.any_eq_true, z]
  constructor
  · rintro ⟨l, hl, a, b⟩
    exact ⟨l, hl, by rw [decide_eq_true a, decide_eq_true b]; rfl⟩
  · rintro ⟨l, hl, c⟩
    rw [Bool.and_eq_true, decide_eq_true_eq, decide_eq_true_eq] at c
    exact ⟨l, hl, c⟩
end
/-! ## data of the law's values -/
theorem wf_lot {l : List Str} (h : OkN l) (hl : ∀ t ∈ l, t.length ≤ 1000) (hn : l.length ≤ 1000) (n : Nat) : wf (n + 1) (lotT l) = true := by
  rw [lotT, wf, Bool.and_eq_true, decide_eq_true_eq, List.length_map, List.all_eq_true]
  refine ⟨hn, fun d hd => ?_⟩
  obtain ⟨t, ht, rfl⟩ := List.mem_map.mp hd
  cases n <;> (rw [wf, Bool.and_eq_true, decide_eq_true_eq]; exact ⟨h t ht, hl t ht⟩)
theorem pairT_lot (p : Str × Str) : pairT p = lotT [p.1, p.2] := rfl
theorem frz_lot (l : List Str) : frzD (lotT l) = lotT l := by
  rw [lotT, frzD, frzDs_map, List.map_map]
  congr 1
theorem frz_lots (ls : List (List Str)) : frzD (.tuple (ls.map lotT)) = .tuple (ls.map lotT) := by
  rw [frzD, frzDs_map, List.map_map]
  congr 1
  exact List.map_congr_left fun l _ => frz_lot l
theorem lst_lot (l : List Str) : lstD (lotT l) = .list (l.map PyData.str) := by
  rw [lotT, lstD, lstDs_map, List.map_map]
  congr 1
theorem lst_lots (ls : List (List Str)) : lstD (.tuple (ls.map lotT)) = .list (ls.map fun l => .list (l.map PyData.str)) := by
  rw [lstD, lstDs_map, List.map_map]
  congr 1
  exact List.map_congr_left fun l _ => lst_lot l
theorem frz_lst (ls : List (List Str)) : frzD (.list (ls.map fun l => PyData.list (l.map PyData.str))) = .tuple (ls.map lotT) := by
  rw [frzD, frzDs_map, List.map_map]
  congr 1
  refine List.map_congr_left fun l _ => ?_
  show frzD (.list (l.map PyData.str)) = lotT l
  rw [frzD, frzDs_map, List.map_map]
  congr 1
theorem wf_lists {ls : List (List Str)} (h : ∀ l ∈ ls, OkN l ∧ (∀ t ∈ l, t.length ≤ 1000) ∧ l.length ≤ 1000) (hn : ls.length ≤ 1000) : wf 2 (.list (ls.map fun l => PyData.list (l.map PyData.str))) = true := by
  rw [wf, Bool.and_eq_true, decide_eq_true_eq, List.length_map, List.all_eq_true]
  refine ⟨hn, fun d hd => ?_⟩
  obtain ⟨l, hl, rfl⟩ := List.mem_map.mp hd
  obtain ⟨h1, h2, h3⟩ := h l hl
  rw [wf, Bool.and_eq_true, decide_eq_true_eq, List.length_map, List.all_eq_true]
  refine ⟨h3, fun d hd => ?_⟩
  obtain ⟨t, ht, rfl⟩ := List.mem_map.mp hd
  rw [wf, Bool.and_eq_true, decide_eq_true_eq]
  exact ⟨h1 t ht, h2 t ht⟩
theorem wf_tuples {ls : List (List Str)} (h : ∀ l ∈ ls, OkN l ∧ (∀ t ∈ l, t.length ≤ 1000) ∧ l.length ≤ 1000) (hn : ls.length ≤ 1000) (n : Nat) : wf (n + 2) (.tuple (ls.map lotT)) = true := by
  rw [wf, Bool.and_eq_true, decide_eq_true_eq, List.length_map, List.all_eq_true]
  refine ⟨hn, fun d hd => ?_⟩
  obtain ⟨l, hl, rfl⟩ := List.mem_map.mp hd
  obtain ⟨h1, h2, h3⟩ := h l hl
  exact wf_lot h1 h2 h3 n
/-- pairs as data are pairs in a sequence -/
theorem pqs_tup {H : Hp} {a : Addr} {xs : List V} {ps : List (Str × Str)} (ha : H a = some (.tup xs)) (h : DdAll H xs (ps.map pairT)) : PqsD H (.ref a) ps := by
  have hl := h.length
  rw [List.length_map] at hl
  refine ⟨xs, ⟨a, rfl, .inr ha⟩, hl, fun i x p e1 e2 => ?_⟩
  obtain ⟨d, g1, k1⟩ := h.get e1
  rw [List.getElem?_map, e2] at g1
  cases g1
  cases k1 with
  | tup h1 h2 => exact ⟨_, rfl, .inr (by rw [h1, dd_strs (l := [p.1, p.2]) h2]; rfl)⟩
theorem pqs_lst {H : Hp} {v : V} {ps : List (Str × Str)} (h : Dd H v (.list (ps.map fun p => PyData.list [.str p.1, .str p.2]))) : PqsD H v ps := by
  cases h with
  | @lst a xs _ h1 h2 =>
    have hl := h2.length
    rw [List.length_map] at hl
    refine ⟨xs, ⟨a, rfl, .inl h1⟩, hl, fun i x p e1 e2 => ?_⟩
    obtain ⟨d, g1, k1⟩ := h2.get e1
    rw [List.getElem?_map, e2] at g1
    cases g1
    cases k1 with
    | lst h3 h4 => exact ⟨_, rfl, .inl (by rw [h3, dd_strs (l := [p.1, p.2]) h4]; rfl)⟩
theorem lst_pairs (ps : List (Str × Str)) : lstD (.tuple (ps.map pairT)) = .list (ps.map fun p => PyData.list [.str p.1, .str p.2]) := by
  rw [lstD, lstDs_map, List.map_map]
  congr 1
theorem pairs_mem {H : Hp} {P : List (Str × Str)} : ∀ {ys : List V}, (∀ y ∈ ys, ∃ p ∈ P, Dd H y (pairT p)) → ∃ ps : List (Str × Str), (∀ p ∈ ps, p ∈ P) ∧ DdAll H ys (ps.map pairT)
  | [], _ => ⟨[], (fun p hp => by cases hp), .nil⟩
  | y :: ys, h => by
    obtain ⟨p, hp, hd⟩ := h y List.mem_cons_self
    obtain ⟨ps, h1, h2⟩ := pairs_mem (ys := ys) fun z hz => h z (List.mem_cons_of_mem _ hz)
    refine ⟨p :: ps, fun q hq => ?_, .cons hd h2⟩
    rcases List.mem_cons.mp hq with rfl | hq
    · exact hp
    · exact h1 q hq
/-! ## calls by keyword -/
section
variable {X : Cx} {CX : CXT} {k : Nat} {f : Addr} {fd : FuncData} {ps ks : List Str} {sp : Sp} {E : XK} {x : Str} {p pos : Pos} {kws : List Keyword} {tk : TA} {g : List Value → List Value → List Value} {gV : List V → List V → List V}
theorem pe_kw0 (F : FnOk X.prog X.w X.K X.mg X.base CX k f fd ps sp) (hr : Room k X.A) (hg : Gl X x) (hm : X.mg x = some (.ref f)) (hk : PySem.W.keepIn X.K (.ref f) = true) (hb : KBinds X.K fd ps ks g gV) (hx : Passes CX X E)
    (hkw : PK X kws tk) (hall : (backToKw pos (keywordEach kws X.env)).all (·.1.isSome) = true := by rfl) (hks : (backToKw pos (keywordEach kws X.env)).filterMap (·.1) = ks := by rfl)
    (hdb : (x == ("__debug__" : Str)) = false := by decide)
    (hpl : ((backTo pos (starEach [] X.env)).any (·.1) || (backToKw pos (keywordEach kws X.env)).any (·.1.isNone)) = false := by rfl) :
    PE X (.Call (.Name x p) [] kws pos) (tCallK sp gV E tNil tk) := by
  refine ⟨fun pins s σ H Q I h => ?_⟩
  refine wpAny_Call_Name_kw (ld_glob I hg hm ?_ hdb)
  refine PySem.W.callWith_KW0 (h₀ := X.base) I.ok.mod.kin hk hall ?_ hpl
  refine thn (hkw.run pos pins s σ H _ I h) fun ws s2 ⟨zs, H2, I2, rz, q2⟩ => ⟨I2.kIn, ?_⟩
  rw [hks]
  exact run_fnk (us := []) (vs := []) F hr hb hx I2 .nil rz q2
end
/-- a def that is called by its parameters' names ks, too -/
structure HasW (P : Program) (w : World) (K : PySem.W.Frag) (mg : Str → Option Value) (base : Heap) (k : Nat) (x : Str) (ps ks : List Str) (gV : List V → List V → List V) (sp : Sp) : Prop where
  ex : ∃ (f : Addr) (fd : FuncData) (g : List Value → List Value → List Value), FnOk P w K mg base CX0 k f fd ps sp ∧ mg x = some (.ref f) ∧ PySem.W.keepIn K (.ref f) = true ∧ KBinds K fd ps ks g gV
section
variable {X : Cx} {k : Nat} {x : Str} {ps ks : List Str} {gV : List V → List V → List V} {sp : Sp} {p pos : Pos} {kws : List Keyword} {tk : TA}
theorem pe_hasW (G : HasW X.prog X.w X.K X.mg X.base k x ps ks gV sp) (hr : Room k X.A) (hkw : PK X kws tk) (hg : Gl X x := by rfl) (hall : (backToKw pos (keywordEach kws X.env)).all (·.1.isSome) = true := by rfl)
    (hks : (backToKw pos (keywordEach kws X.env)).filterMap (·.1) = ks := by rfl) (hdb : (x == ("__debug__" : Str)) = false := by decide)
    (hpl : ((backTo pos (starEach [] X.env)).any (·.1) || (backToKw pos (keywordEach kws X.env)).any (·.1.isNone)) = false := by rfl) :
    PE X (.Call (.Name x p) [] kws pos) (tCallK sp gV E0 tNil tk) := by
  obtain ⟨f, fd, g, ok, m, kp, b⟩ := G.ex
  exact pe_kw0 ok hr hg m kp b pass0 hkw hall hks hdb hpl
end
end Lf

set_option maxHeartbeats 4000000
namespace Lf
open PySem PySem.Spec PyProof.Rows L2

theorem twosL_len : ∀ ts : List Str, (twosL ts).length ≤ ts.length * ts.length
  | [] => Nat.le_refl _
  | t :: ts => by
    have ih := twosL_len ts
    rw [twosL, List.length_append, List.length_map, List.length_cons, Nat.add_mul, Nat.mul_add]
    omega
theorem twos_few {ts : List Str} (h : ts.length ≤ 5) : (twosL ts).length ≤ 25 := Nat.le_trans (twosL_len ts) (Nat.mul_le_mul h h)
mutual
theorem Dd.hid {u : Addr} {H : Hp} (hu : ∃ xs, H u = some (.lst xs)) : ∀ {d : PyData} {v : V}, keyD d = true → Dd H v d → Dd (hide u H) v d
  | .str x, _, _, h => by cases h; exact .str x
  | .tuple ds, _, k, h => by
    rw [keyD] at k
    cases h with
    | @tup a xs _ h1 h2 =>
      refine .tup (hide_in (fun z => ?_) h1) (DdAll.hid hu k h2)
      obtain ⟨ys, e⟩ := hu
      rw [z, e] at h1
      cases h1
  | .none, _, k, _ => by simp [keyD] at k
  | .bool _, _, k, _ => by simp [keyD] at k
  | .int _, _, k, _ => by simp [keyD] at k
  | .list _, _, k, _ => by simp [keyD] at k
  | .dict _, _, k, _ => by simp [keyD] at k
theorem DdAll.hid {u : Addr} {H : Hp} (hu : ∃ xs, H u = some (.lst xs)) : ∀ {ds : List PyData} {vs : List V}, keysD ds = true → DdAll H vs ds → DdAll (hide u H) vs ds
  | [], _, _, h => by cases h; exact .nil
  | _ :: _, _, k, h => by
    rw [keysD, Bool.and_eq_true] at k
    cases h with
    | cons h1 h2 => exact .cons (Dd.hid hu k.1 h1) (DdAll.hid hu k.2 h2)
end
theorem pair_key {p : Str × Str} (h1 : PyData.canLay0 (.str p.1) = true) (h2 : PyData.canLay0 (.str p.2) = true) : keyD (pairT p) = true := by
  rw [pairT, keyD]
  simp only [keysD, keyD, h1, h2]
  rfl
theorem pairs_key {ps : List (Str × Str)} (h : ∀ p ∈ ps, PyData.canLay0 (.str p.1) = true ∧ PyData.canLay0 (.str p.2) = true) : keysD (ps.map pairT) = true := by
  induction ps with
  | nil => rfl
  | cons p ps ih =>
    rw [List.map_cons, keysD, pair_key (h p List.mem_cons_self).1 (h p List.mem_cons_self).2, ih fun q hq => h q (List.mem_cons_of_mem _ hq)]
    rfl
theorem Urn.lst {n : Nat} {u : Addr} {H : Hp} (h : Urn n u H) : ∃ xs, H u = some (.lst xs) := let ⟨_, _, _, h1, _⟩ := h; ⟨_, h1⟩
/-- tuple(sorted(set(xs))), xs a list of tuples of texts: what comes out -/
theorem asc_al {H : Hp} {vs : List V} {ds : List PyData} {L : List (Addr × PyData)} (mL : ∀ p ∈ L, Dd H (.ref p.1) p.2 ∧ KeyT p.2 ∧ V.ref p.1 ∈ vs ∧ p.2 ∈ ds) (al : PySem.W.AllAlike ds) : PySem.W.AllAlike (L.map (·.2)) := by
  intro d hd1 d' hd2
  obtain ⟨p, hp, rfl⟩ := List.mem_map.mp hd1
  obtain ⟨p', hp', rfl⟩ := List.mem_map.mp hd2
  exact al _ (mL p hp).2.2.2 _ (mL p' hp').2.2.2
theorem asc_so {H : Hp} {vs : List V} {ds : List PyData} {L : List (Addr × PyData)} (mL : ∀ p ∈ L, Dd H (.ref p.1) p.2 ∧ KeyT p.2 ∧ V.ref p.1 ∈ vs ∧ p.2 ∈ ds) (so : PySem.W.Sortable ds) : PySem.W.Sortable (L.map (·.2)) := by
  rcases so with so | so
  · exact .inl fun d hd1 => by
      obtain ⟨p, hp, rfl⟩ := List.mem_map.mp hd1
      exact so _ (mL p hp).2.2.2
  · exact .inr fun d hd1 => by
      obtain ⟨p, hp, rfl⟩ := List.mem_map.mp hd1
      exact so _ (mL p hp).2.2.2
theorem asc_out {w : World} {H : Hp} {vs : List V} {ds : List PyData} {a : Addr} {L : List (Addr × PyData)} (na : H a = none) (nL : (L.map (·.2)).Nodup) (mL : ∀ p ∈ L, Dd H (.ref p.1) p.2 ∧ KeyT p.2 ∧ V.ref p.1 ∈ vs ∧ p.2 ∈ ds) (cL : ∀ d ∈ ds, d ∈ L.map (·.2))
    {L' : List (Addr × PyData)} {p2 p3 : Addr} (pm : L'.Perm L) (pw : L'.Pairwise fun q r => PySem.W.dataLt r.2 q.2 = false) (np2 : upd H a (SetDO w a L) p2 = none) (np3 : upd (upd H a (SetDO w a L)) p2 (.lst (L'.map fun q => V.ref q.1)) p3 = none) :
    ∃ H' ys es, upd (upd (upd H a (SetDO w a L)) p2 (.lst (L'.map fun q => V.ref q.1))) p3 (.tup (L'.map fun q => V.ref q.1)) = H' ∧ Same H H' ∧ AscTo ds es ∧ DdAll H' ys es ∧ H' p3 = some (.tup ys) := by
  have s1 := same_new na (SetDO w a L)
  have s2 := s1.trans (same_new np2 (.lst (L'.map fun q => V.ref q.1)))
  have s3 := s2.trans (same_new np3 (.tup (L'.map fun q => V.ref q.1)))
  have gen : ∀ {H3 : Hp} (M : List (Addr × PyData)), (∀ p ∈ M, Dd H3 (.ref p.1) p.2) → DdAll H3 (M.map fun q => V.ref q.1) (M.map (·.2)) := by
    intro H3 M
    induction M with
    | nil => exact fun _ => .nil
    | cons p M ih => exact fun h => .cons (h p List.mem_cons_self) (ih fun q hq => h q (List.mem_cons_of_mem _ hq))
  refine ⟨_, L'.map fun q => V.ref q.1, L'.map (·.2), rfl, s3, ⟨(pm.map _).nodup_iff.mpr nL, fun d => ?_, ?_⟩, gen L' fun p hp => (mL p (pm.mem_iff.mp hp)).1.mono s3, upd_same⟩
  · rw [(pm.map (·.2)).mem_iff]
    constructor
    · intro h
      obtain ⟨p, hp, rfl⟩ := List.mem_map.mp h
      exact (mL p hp).2.2.2
    · exact cL d
  · rw [List.pairwise_map]
    exact pw
def fD (ts : List Str) (m : Str → Str) : PyData → PyData
  | .str t => lotT (lotS ts m t)
  | d => d
def spRight : Sp := fun vs H Q _ => ∃ u : Addr, vs = [.ref u] ∧ Urn 1000 u H ∧ ∀ H', Kept u H H' → Q (.bl true) H'
abbrev nRight : List Str := ["_law_tub", "_law_turn", "_law_tags_here", "_law_every", "_law_some", "_law_due", "_law_got", "_law_pairs_so", "_law_tag", "_law_two_so"]
section
variable {P : Program} {w : World} {K : PySem.W.Frag} {mg : Str → Option Value} {base : Heap} {f : Addr} {fd : FuncData}
theorem scRight : FnScope nRight ["_law_tub"] (defScope (topS 26)) := ⟨rfl, rfl, rfl, by decide +kernel, rfl, by decide +kernel, by decide +kernel⟩
/-- both keywords, the second parameter's first -/
abbrev gVFrom : List V → List V → List V := fun vs zs => vs ++ zs.reverse
abbrev gVOne : List V → List V → List V := fun vs zs => vs ++ zs
theorem ok_right (B : Bts mg) (gT : Has P w K mg base 1 "_law_take" ["_law_tub", "_law_under"] spTake) (gP : Has P w K mg base 2 "_law_pick" ["_law_tub", "_law_some", "_law_many"] spPick) (gG : Has P w K mg base 3 "_law_tags" ["_law_tub", "_law_most"] spTags)
    (g2 : Has P w K mg base 1 "_law_twos" ["_law_tags_here"] spLTwos) (gR : Has P w K mg base 1 "_law_reach" ["_law_tags_here", "_law_some", "_law_tag"] spReach) (gF : Has P w K mg base 3 "lots_from" ["islands", "pairs"] spFrom)
    (gFw : HasW P w K mg base 3 "lots_from" ["islands", "pairs"] ["pairs", "islands"] gVFrom spFrom) (gL : Has P w K mg base 3 "_law_lists" ["_law_matter"] (spLists 3)) (gS : Has P w K mg base 4 "_law_same" ["_law_got", "_law_due"] (spSame 4))
    (gJ : Has P w K mg base 1 "_law_joins" ["_law_own", "_law_two_so"] spLJoins) (gO : Has P w K mg base 5 "pairs_joined" ["parting"] (spJoined 4)) (gOw : HasW P w K mg base 5 "pairs_joined" ["parting"] ["parting"] gVOne (spJoined 4))
    (F : Fun K "_law_right" "_law_right" (topS 26) f fd) : FnOk P w K mg base CX0 6 f fd ["_law_tub"] spRight := by
  refine F.ok scRight (fun vs H Q E h => ?_) (fun cdv A outer s H vs Q E hr h => ?_)
  · obtain ⟨u, rfl, _⟩ := h
    rfl
  obtain ⟨u, rfl, hu, q⟩ := h
  refine ⟨_, pss_cons (ps_for PassesOwn.never rfl (pi_range1 (by rfl) B.range (pa_cons pe_int pa_nil)) (pg_name (i := 1) scRight.nd rfl (Or.inl rfl))
    (pss_cons (ps_set (i := 2) scRight.nd rfl (Or.inr rfl) (pe_has gG (hr.mono (by decide)) (pa_cons (pv 0) (pa_cons pe_int pa_nil))))
    (pss_cons (ps_set (i := 3) scRight.nd rfl (Or.inl rfl) (pe_has g2 (hr.mono (by decide)) (pa_cons (pv 2) pa_nil)))
    (pss_cons (ps_set (i := 4) scRight.nd rfl (Or.inr rfl) (pe_has gP (hr.mono (by decide)) (pa_cons (pv 0) (pa_cons (pv 3) (pa_cons (pe_has gT (hr.mono (by decide)) (pa_cons (pv 0) (pa_cons pe_int pa_nil))) pa_nil)))))
    (pss_cons (ps_set (i := 4) scRight.nd rfl (Or.inr rfl) (pe_callTy call_tuple_of (by rfl) B.tuple (by decide +kernel) (pa_cons (pe_op op_cat (pv 4) (pe_slice sl_list (pv 4) po_none (po_some (pe_has gT (hr.mono (by decide)) (pa_cons (pv 0) (pa_cons pe_int pa_nil)))))) pa_nil)))
    (pss_cons (ps_set (i := 5) scRight.nd rfl (Or.inr rfl) (pe_callTy call_tuple_of (by rfl) B.tuple (by decide +kernel) (pa_cons (pe_callB (cr_sortedDS rfl hr.units) (by rfl) B.sorted (by decide +kernel) (pa_cons (pe_callTy (cr_setOfD rfl hr.units) (by rfl) B.set (by decide +kernel) (pa_cons
        (pe_lc (own := [("_law_tag", 8)]) (g := gName 8) rfl scRight.nd (pi_tup (pv 2)) (blkOk_by (own := [("_law_tag", 8)]) (N := nRight) (sc := defScope (topS 26)) (by decide +kernel))
          (fun _ _ _ _ _ => pg_name (i := 8) scRight.nd rfl (Or.inl rfl)) (fun _ _ _ _ _ => pts_nil) (fun _ _ _ _ _ => pe_has gR (hr.mono (by decide)) (pa_cons (pv 2) (pa_cons (pv 4) (pa_cons (pv 8) pa_nil))))) pa_nil)) pa_nil)) pa_nil)))
    (pss_cons (ps_set (i := 6) scRight.nd rfl (Or.inl rfl) (pe_lst (pa_cons (pe_has gF (hr.mono (by decide)) (pa_cons (pv 2) (pa_cons (pv 4) pa_nil)))
        (pa_cons (pe_hasW gFw (hr.mono (by decide)) (pk_cons (pe_has gL (hr.mono (by decide)) (pa_cons (pv 4) pa_nil)) (pk_cons (pe_callTy call_list_of (by rfl) B.list (by decide +kernel) (pa_cons (pv 2) pa_nil)) pk_nil))) pa_nil))))
    (pss_cons (ps_if (pt_not (pt_val (pe_has gS (hr.mono (by decide)) (pa_cons (pv 6) (pa_cons (pe_lst (pa_cons (pv 5) (pa_cons (pv 5) pa_nil))) pa_nil))))) (pss_one (ps_ret pe_bl)) pss_nil)
    (pss_cons (ps_set (i := 7) scRight.nd rfl (Or.inl rfl) (pe_callTy call_tuple_of (by rfl) B.tuple (by decide +kernel) (pa_cons
        (pe_lc (own := [("_law_two_so", 9)]) (g := gName 9) rfl scRight.nd (pi_list (pv 3)) (blkOk_by (own := [("_law_two_so", 9)]) (N := nRight) (sc := defScope (topS 26)) (by decide +kernel))
          (fun _ _ _ _ _ => pg_name (i := 9) scRight.nd rfl (Or.inl rfl)) (fun _ _ _ _ _ => pts_one (pt_val (pe_has gJ (hr.mono (by decide)) (pa_cons (pv 5) (pa_cons (pv 9) pa_nil))))) (fun _ _ _ _ _ => pv 9)) pa_nil)))
    (pss_one (ps_if (pt_not (pt_val (pe_has gS (hr.mono (by decide)) (pa_cons (pe_lst (pa_cons (pe_has gO hr (pa_cons (pv 5) pa_nil)) (pa_cons (pe_hasW gOw hr (pk_cons (pe_has gL (hr.mono (by decide)) (pa_cons (pv 5) pa_nil)) pk_nil)) pa_nil))) (pa_cons (pe_lst (pa_cons (pv 7) (pa_cons (pv 7) pa_nil))) pa_nil))))) (pss_one (ps_ret pe_bl)) pss_nil)))))))))))
    (pss_one (ps_ret pe_bl)), ?_⟩
  refine ⟨6, rfl, by decide, by decide, ?_⟩
  refine for_it (walk_range (lo := 0) (n := (6 : Int).toNat)) (fun i σ H3 => ∃ t1 t2 t3 t4 t5 t6 t7, σ = [some (.ref u), t1, t2, t3, t4, t5, t6, t7, none, none] ∧ Kept u H H3 ∧ Urn (40 * (6 - i)) u H3)
    ⟨none, none, none, none, none, none, none, rfl, .refl _, hu.le (by decide)⟩ (fun _ _ _ _ _ => trivial) (fun i x σ H2 H3 hi hP hY => ?_) (fun σ H3 hP => ?_)
  · obtain ⟨rfl, rfl⟩ := hY
    obtain ⟨t1, t2, t3, t4, t5, t6, t7, rfl, k3, u3⟩ := hP
    have hi6 : i < 6 := hi
    refine ⟨_, rfl, u, 40 * (6 - (i + 1)) + 31, rfl, u3.le (by omega), fun ts p H4 tk k4 u4 hp => ?_⟩
    refine ⟨_, rfl, p, ts, rfl, hide_sub _ _ hp, by have := tk.hi; omega, fun l zs H5 s5 nl hl hzs => ?_⟩
    have u5 := u4.same s5
    have hlu : l ≠ u := ne_urn u4 nl
    have zl : zs.length ≤ 25 := by
      have h1 := hzs.length
      rw [List.length_map] at h1
      have h2 := twos_few tk.hi
      omega
    have twin : ∀ q ∈ twosL ts, q.1 ∈ ts ∧ q.2 ∈ ts := fun q hq => ⟨(twosL_mem tk.asc q hq).1, (twosL_mem tk.asc q hq).2.1⟩
    refine ⟨_, rfl, _, rfl, _, rfl, u, 5, 40 * (6 - (i + 1)) + 30, rfl, u5, by decide, by decide, fun r H6 r0 r5 k6 u6 => ?_⟩
    obtain ⟨rn, rfl⟩ : ∃ rn : Nat, r = (rn : Int) := ⟨r.toNat, by omega⟩
    refine ⟨u, l, zs, rn, 40 * (6 - (i + 1)) + 5, rfl, u6.le (by omega), k6 _ _ (hide_in hlu hl), by omega, fun ys p7 H7 hpm hyl k7 u7 hy => ?_⟩
    refine ⟨_, rfl, _, rfl, _, rfl, u, 2, 40 * (6 - (i + 1)) + 4, rfl, u7, by decide, by decide, fun r2 H8 q0 q2 k8 u8 => ?_⟩
    obtain ⟨rn2, rfl⟩ : ∃ rn2 : Nat, r2 = (rn2 : Int) := ⟨r2.toNat, by omega⟩
    have hy8 := hide_sub _ _ (k8 _ _ hy)
    refine ⟨_, rfl, p7, ys, rfl, .of hy8, fun p9 n9 => ?_⟩
    rw [cutV_to ys rn2]
    have s9 := same_new n9 (.lst (ys.take rn2))
    have e9 : upd H8 p9 (.lst (ys.take rn2)) p9 = some (.lst (ys.take rn2)) := upd_same
    generalize upd H8 p9 (.lst (ys.take rn2)) = H9 at s9 e9 ⊢
    have hyl25 : ys.length ≤ 25 := by rw [hyl]; omega
    have hxl : (ys ++ ys.take rn2).length ≤ 50 := by
      rw [List.length_append, List.length_take]
      omega
    refine ⟨p7, p9, ys, _, rfl, rfl, s9 _ _ hy8, e9, small (by rw [List.length_append] at hxl; omega), fun p10 n10 => ⟨p10, _, rfl, .inl ⟨.of upd_same, fun p11 n11 => ?_⟩⟩⟩
    generalize hxs : ys ++ ys.take rn2 = xs at hxl n11 ⊢
    have s11 := s9.trans ((same_new n10 (.lst xs)).trans (same_new n11 (.tup xs)))
    have hx : upd (upd H9 p10 (.lst xs)) p11 (.tup xs) p11 = some (.tup xs) := upd_same
    generalize upd (upd H9 p10 (.lst xs)) p11 (.tup xs) = Hb at s11 hx ⊢
    have k58 : Kept u H5 H8 := k6.trans (k7.trans k8)
    have k48 : Kept u H4 H8 := (hide_mono s5).trans k58
    have kb : Kept u H Hb := k3.trans (k4.trans (k48.trans (hide_mono s11)))
    have ub := u8.same s11
    have hpb : Hb p = some (.tup (ts.map V.str)) := s11 _ _ (hide_sub _ _ (k48 _ _ hp))
    have hlb : Hb l = some (.lst zs) := s11 _ _ (hide_sub _ _ (k58 _ _ (hide_in hlu hl)))
    have tkey : keysD ((twosL ts).map pairT) = true := pairs_key fun q hq => ⟨tk.ok _ (twin q hq).1, tk.ok _ (twin q hq).2⟩
    have hzh := DdAll.hid u5.lst tkey hzs
    have hzb : DdAll Hb zs ((twosL ts).map pairT) := ((hzh.mono k58).mono hide_sub).mono s11
    have each : ∀ x ∈ xs, ∃ q ∈ twosL ts, Dd Hb x (pairT q) := by
      intro x hxm
      have hys : x ∈ ys := by
        rw [← hxs] at hxm
        rcases List.mem_append.mp hxm with h | h
        · exact h
        · exact List.mem_of_mem_take h
      obtain ⟨rs, pm⟩ := hpm
      have hz : x ∈ zs := pm.mem_iff.mp (List.mem_append_left _ hys)
      obtain ⟨j, hj⟩ := List.getElem?_of_mem hz
      obtain ⟨d, g1, kd⟩ := hzb.get hj
      obtain ⟨q, hq, rfl⟩ := List.mem_map.mp (List.mem_of_getElem? g1)
      exact ⟨q, hq, kd⟩
    obtain ⟨ps, hps, hxd⟩ := pairs_mem each
    have hin : ∀ q ∈ ps, q.1 ∈ ts ∧ q.2 ∈ ts := fun q hq => twin q (hps q hq)
    have psl : ps.length ≤ 50 := by
      have h1 := hxd.length
      rw [List.length_map] at h1
      omega
    obtain ⟨m, hF⟩ : ∃ m, Fine ps m := fine_ex ps [] _ Fine.start
    -- the lots as the law finds them
    have tl5 := tk.hi
    refine ⟨_, rfl, p, rfl, ⟨_, .of hpb⟩, fun D nD => ?_⟩
    refine lc_new (fD ts m) (walk_tup (K := K) (a := p) (xs := ts.map V.str)) (fun H2 s2 => .of (s2 _ _ hpb)) (ddAll_strs ts) nD (by rw [List.length_map]; omega) (fun v => rfl) (fun v d H2 R hm hv s2 rr => ?_) (fun H2 ws s2 hD hws => ?_)
    · obtain ⟨t, ht, rfl⟩ := List.mem_map.mp hm
      cases hv
      refine ⟨_, rfl, _, rfl, _, rfl, p, p11, ts, xs, ps, t, rfl, s2 _ _ hpb, s2 _ _ hx, hxd.mono s2, ht, hin, by omega, fun y ys2 H' s' pm hs hd => rr y H' s' ?_⟩
      rw [reach_lot hF tk.asc hin ht pm hs] at hd
      exact hd
    have efd : (ts.map PyData.str).map (fD ts m) = lotsD ts m := by
      rw [List.map_map]
      rfl
    rw [efd] at hws
    refine ⟨D, ws, _, rfl, .inl (.of hD), (hws.mono hide_sub).mono newer_sub, lots_key tk.ok, (by unfold lotsD; rw [List.length_map]; omega), fun a L na nL mL cL => ⟨a, L, rfl, upd_same, fun p hp => ⟨(mL p hp).1.mono (same_new na _), (mL p hp).2.1⟩, asc_al mL lots_al, asc_so mL lots_sortable, fun L' p2 pm _ pw np2 => ⟨p2, _, rfl, .inl ⟨.of upd_same, fun pd npd => ?_⟩⟩⟩⟩
    obtain ⟨Hc, ws2, es, eHc, s3, asc, hes, hpd⟩ := asc_out na nL mL cL pm pw np2 npd
    rw [eHc]
    obtain ⟨ls, rfl, g⟩ := lots_of_asc asc
    have sc := s2.trans s3
    have dd : Dd Hc (.ref pd) (.tuple (ls.map lotT)) := .tup hpd hes
    have lin : ∀ k ∈ ls, ∀ x ∈ k, x ∈ ts := fun k hk x hx => (g.lot hk hx).1
    have lok : ∀ k ∈ ls, OkN k ∧ (∀ t ∈ k, t.length ≤ 1000) ∧ k.length ≤ 1000 := fun k hk => by
      obtain ⟨j, hj, rfl⟩ := (g.mem k).mp hk
      refine ⟨fun x hx => tk.ok x (lotS_mem.mp hx).1, fun x hx => tk.len x (lotS_mem.mp hx).1, ?_⟩
      have := List.length_filter_le (fun j' => decide (m j' = m j)) ts
      unfold lotS
      omega
    have lls : ls.length ≤ 5 := by
      have h := hes.length
      have h2 : (ls.map lotT).length ≤ (lotsD ts m).length := asc.nd.length_le_of_subset fun d hd => (asc.mem d).mp hd
      unfold lotsD at h2
      rw [List.length_map, List.length_map] at h2
      omega
    have lne : ∀ k ∈ ls, k ≠ [] := fun k hk => by
      obtain ⟨j, hj, rfl⟩ := (g.mem k).mp hk
      intro e
      have := lotS_self (m := m) hj
      rw [e] at this
      cases this
    have wt : wf 2 (.tuple (ls.map lotT)) = true := wf_tuples lok (by omega) 0
    have sqT : ∀ {H' : Hp}, Same Hb H' → SqD H' (.ref p) (ts.map V.str) := fun s => ⟨p, rfl, .inr (s _ _ hpb)⟩
    have pqT : PqsD Hb (.ref p11) ps := pqs_tup hx hxd
    have one : ∀ {m1 es1}, Fine ps m1 → AscTo (lotsD ts m1) es1 → es1 = ls.map lotT := fun {m1 es1} F1 a1 => by
      rw [lots_same hF F1 hin] at a1
      exact lots_one tk.ok a1 asc
    -- what the program finds
    refine ⟨_, rfl, _, rfl, .ref p, .ref p11, ts, ps, rfl, sqT sc, tk.asc, by omega, tk.ok, pqT.mono sc, hin, fun y1 es1 m1 H13 s13 F1 a1 d1 => ?_⟩
    cases one F1 a1
    have dps : Dd Hb (.ref p11) (.tuple (ps.map pairT)) := .tup hx hxd
    have wps : wf 2 (.tuple (ps.map pairT)) = true := by
      have e : ps.map pairT = (ps.map fun q => [q.1, q.2]).map lotT := by
        rw [List.map_map]
        rfl
      rw [e]
      refine wf_tuples (fun k hk => ?_) (by rw [List.length_map]; omega) 0
      obtain ⟨q, hq, rfl⟩ := List.mem_map.mp hk
      obtain ⟨a1, a2⟩ := hin q hq
      refine ⟨fun x hx => ?_, fun x hx => ?_, by show 2 ≤ 1000; decide⟩
      · rcases List.mem_cons.mp hx with rfl | hx
        · exact tk.ok _ a1
        · rw [List.mem_singleton.mp hx]
          exact tk.ok _ a2
      · rcases List.mem_cons.mp hx with rfl | hx
        · exact tk.len _ a1
        · rw [List.mem_singleton.mp hx]
          exact tk.len _ a2
    have sc13 := sc.trans s13
    refine ⟨_, rfl, .ref p11, _, 2, rfl, dps.mono sc13, wps, by decide, fun y2 H14 s14 hy2 => ⟨_, rfl, p, _, rfl, .inr (.of ((sc13.trans s14) _ _ hpb)), fun p15 n15 => ?_⟩⟩
    rw [lst_pairs] at hy2
    have s15 := same_new n15 (.lst (ts.map V.str))
    refine ⟨.ref p15, y2, ts, ps, rfl, ⟨p15, rfl, .inl upd_same⟩, tk.asc, by omega, tk.ok, (pqs_lst (hy2.mono newer_sub)).mono s15, hin, fun y3 es3 m3 H16 s16 F3 a3 d3 => ?_⟩
    cases one F3 a3
    have s1316 := s14.trans (s15.trans s16)
    refine ⟨(by show 2 ≤ sizeLine; decide), fun pg ng => ?_⟩
    have s17 := same_new ng (.lst [y1, y3])
    have dg : Dd (upd H16 pg (.lst [y1, y3])) (.ref pg) (.list [.tuple (ls.map lotT), .tuple (ls.map lotT)]) := .lst upd_same (.cons (d1.mono (s1316.trans s17)) (.cons (d3.mono s17) .nil))
    have sc17 := s13.trans (s1316.trans s17)
    generalize upd H16 pg (.lst [y1, y3]) = H17 at s17 dg sc17 ⊢
    refine ⟨_, rfl, _, rfl, _, rfl, (by show 2 ≤ sizeLine; decide), fun pq nq => ?_⟩
    have s18 := same_new nq (.lst [.ref pd, .ref pd])
    have dd18 := dd.mono (sc17.trans s18)
    have w3 : wf 3 (.list [.tuple (ls.map lotT), .tuple (ls.map lotT)]) = true := by
      rw [wf]
      simp [wt]
    refine ⟨.ref pg, .ref pq, _, 3, rfl, dg.mono s18, .lst upd_same (.cons dd18 (.cons dd18 .nil)), w3, by decide, fun H19 s19 => ⟨_, rfl, iteF ?_⟩⟩
    have s1819 := s18.trans s19
    generalize upd H17 pq (.lst [.ref pd, .ref pd]) = H18 at s18 s19 s1819
    have sd : Same Hc H19 := sc17.trans s1819
    have sb : Same Hb H19 := sc.trans sd
    -- the pairs
    refine ⟨_, rfl, l, rfl, ⟨_, .of (sb _ _ hlb)⟩, fun D2 nD2 => ?_⟩
    have hz19 := hzb.mono sb
    have zll := hz19.length
    rw [List.length_map] at zll
    refine lc_it (walk_list (K := K) (a := l) (xs := zs)) (fun j H2 => Same H19 H2 ∧ ∃ vs, H2 D2 = some (.lst vs) ∧ vs.length ≤ j ∧ DdAll H19 vs ((((twosL ts).take j).filter fun q => ls.any fun l => decide (q.1 ∈ l) && decide (q.2 ∈ l)).map pairT))
      ⟨same_new nD2 _, [], upd_same, Nat.zero_le _, .nil⟩ (fun j H2 _ hP => .of (hP.1 _ _ (sb _ _ hlb))) (fun j x H2 H20 hj hP hY => ?_) (fun H2 hP => ?_)
    · obtain ⟨rfl, hxj⟩ := hY
      obtain ⟨sm, vs, hD2, hvl, hvs⟩ := hP
      obtain ⟨d, gd, kd⟩ := hz19.get hxj
      rw [List.getElem?_map] at gd
      obtain ⟨q, hq, rfl⟩ : ∃ q, (twosL ts)[j]? = some q ∧ d = pairT q := by
        cases e : (twosL ts)[j]? with
        | none => rw [e] at gd; cases gd
        | some q =>
          rw [e] at gd
          exact ⟨q, rfl, (Option.some.inj gd).symm⟩
      have enx : ((twosL ts).take (j + 1)).filter (fun q => ls.any fun l => decide (q.1 ∈ l) && decide (q.2 ∈ l)) = ((twosL ts).take j).filter (fun q => ls.any fun l => decide (q.1 ∈ l) && decide (q.2 ∈ l)) ++ (if (ls.any fun l => decide (q.1 ∈ l) && decide (q.2 ∈ l)) = true then [q] else []) := by
        rw [List.take_add_one, hq, List.filter_append]
        congr 1
        show [q].filter _ = _
        rw [List.filter_cons]
        split <;> rfl
      refine ⟨rfl, _, rfl, _, rfl, .ref pd, x, ls, q.1, q.2, rfl, dd.mono (sd.trans sm), kd.mono sm, fun k hk => (lok k hk).1, by omega, fun H21 s21 => ⟨_, rfl, ?_⟩⟩
      cases c : ls.any fun l => decide (q.1 ∈ l) && decide (q.2 ∈ l) with
      | true =>
        rw [c, if_pos rfl] at enx
        refine iteT ⟨_, rfl, vs, s21 _ _ hD2, small1000 (by omega), same_upd (sm.trans s21) nD2 _, vs ++ [x], upd_same, ?_, ?_⟩
        · rw [List.length_append, List.length_singleton]
          omega
        · rw [enx, List.map_append]
          exact hvs.append (.cons kd .nil)
      | false =>
        rw [c, if_neg (by simp), List.append_nil] at enx
        refine iteF ⟨sm.trans s21, vs, s21 _ _ hD2, by omega, ?_⟩
        rw [enx]
        exact hvs
    obtain ⟨sm, vs, hD2, hvl, hvs⟩ := hP
    rw [List.take_of_length_le (by omega), ← pairs_same g tk.asc] at hvs
    refine ⟨D2, _, rfl, .inl ⟨.of hD2, fun pt npt => ?_⟩⟩
    have s22 := same_new npt (.tup vs)
    have dpt : Dd (upd H2 pt (.tup vs)) (.ref pt) (.tuple ((overL ltB ts fun q => decide (markS ls q.1 = markS ls q.2)).map pairT)) := .tup upd_same (hvs.mono (sm.trans s22))
    have s1922 := sm.trans s22
    generalize upd H2 pt (.tup vs) = H22 at s22 dpt s1922 ⊢
    generalize hov : (overL ltB ts fun q => decide (markS ls q.1 = markS ls q.2)) = ov at dpt
    have sd22 := sd.trans s1922
    have fp := g.flat tk.asc.nd
    refine ⟨_, rfl, .ref pd, _, ls, ts, 2, rfl, dd.mono sd22, wt, by decide, frz_lots ls, fp, tk.asc, by omega, lne, fun y4 H23 s23 h4 => ?_⟩
    rw [hov] at h4
    refine ⟨_, rfl, .ref pd, _, 2, rfl, dd.mono (sd22.trans s23), wt, by decide, fun y5 H24 s24 h5 => ?_⟩
    rw [lst_lots] at h5
    refine ⟨y5, _, ls, ts, 2, rfl, h5.mono newer_sub, wf_lists lok (by omega), by decide, frz_lst ls, fp, tk.asc, by omega, lne, fun y6 H25 s25 h6 => ?_⟩
    rw [hov] at h6
    refine ⟨(by show 2 ≤ sizeLine; decide), fun pa na => ?_⟩
    have s26 := same_new na (.lst [y4, y6])
    have dpa : Dd (upd H25 pa (.lst [y4, y6])) (.ref pa) (.list [.tuple (ov.map pairT), .tuple (ov.map pairT)]) := .lst upd_same (.cons (h4.mono (s24.trans (s25.trans s26))) (.cons (h6.mono s26) .nil))
    have s2226 := s23.trans (s24.trans (s25.trans s26))
    generalize upd H25 pa (.lst [y4, y6]) = H26 at s26 dpa s2226 ⊢
    refine ⟨_, rfl, _, rfl, (by show 2 ≤ sizeLine; decide), fun pb nb => ?_⟩
    have s27 := same_new nb (.lst [.ref pt, .ref pt])
    have dp27 := dpt.mono (s2226.trans s27)
    have wov : wf 2 (.tuple (ov.map pairT)) = true := by
      have e : ov.map pairT = (ov.map fun q => [q.1, q.2]).map lotT := by
        rw [List.map_map]
        rfl
      have ovin : ∀ q ∈ ov, q ∈ twosL ts := fun q hq => by
        rw [← hov, pairs_same g tk.asc] at hq
        exact (List.mem_filter.mp hq).1
      have ovl : ov.length ≤ 25 := by
        rw [← hov, pairs_same g tk.asc]
        exact Nat.le_trans (List.length_filter_le _ _) (twos_few tk.hi)
      rw [e]
      refine wf_tuples (fun k hk => ?_) (by rw [List.length_map]; omega) 0
      obtain ⟨q, hq, rfl⟩ := List.mem_map.mp hk
      obtain ⟨a1, a2⟩ := twin q (ovin q hq)
      refine ⟨fun x hx => ?_, fun x hx => ?_, by show 2 ≤ 1000; decide⟩
      · rcases List.mem_cons.mp hx with rfl | hx
        · exact tk.ok _ a1
        · rw [List.mem_singleton.mp hx]
          exact tk.ok _ a2
      · rcases List.mem_cons.mp hx with rfl | hx
        · exact tk.len _ a1
        · rw [List.mem_singleton.mp hx]
          exact tk.len _ a2
    have wp3 : wf 3 (.list [.tuple (ov.map pairT), .tuple (ov.map pairT)]) = true := by
      rw [wf]
      simp [wov]
    refine ⟨.ref pa, .ref pb, _, 3, rfl, dpa.mono s27, .lst upd_same (.cons dp27 (.cons dp27 .nil)), wp3, by decide, fun H28 s28 => ⟨_, rfl, iteF ?_⟩⟩
    have send : Same Hb H28 := sc.trans (sd22.trans (s2226.trans (s27.trans s28)))
    exact ⟨_, _, _, _, _, _, _, rfl, kb.trans (hide_mono send), (ub.same send).le (by omega)⟩
  · obtain ⟨t1, t2, t3, t4, t5, t6, t7, rfl, k3, u3⟩ := hP
    exact q H3 k3
end
end Lf

set_option maxHeartbeats 4000000
namespace Lf
open PySem PySem.Spec PyProof.Rows L2

/-! ## list(zip(t, u)) of two tuples -/
theorem zip_len0 : typeLookup (.type "zip") "__len__" = pure none := am_miss_of_fast (by decide +kernel)
theorem zip_hint0 : typeLookup (.type "zip") "__length_hint__" = pure none := am_miss_of_fast (by decide +kernel)

/-- the tuples at ts, above lo, hold what stands at their places -/
structure TwG (xs ys : Array Value) (lo : Addr) (h : Heap) (ts : List Addr) : Prop where
  rise : ts.Pairwise (· < ·)
  over : ∀ t ∈ ts, lo < t
  two : ∀ (j : Nat) (t : Addr), ts[j]? = some t → ∃ x y, xs[j]? = some x ∧ ys[j]? = some y ∧ IsPair h t x y
theorem TwG.held {xs ys : Array Value} {lo : Addr} {h : Heap} {ts : List Addr} (g : TwG xs ys lo h ts) {t : Addr} (ht : t ∈ ts) : t < h.objs.size :=
  let ⟨j, hj⟩ := List.mem_iff_getElem?.mp ht
  let ⟨_, _, _, _, e⟩ := g.two j t hj
  Heap.lt_size e
theorem TwG.kept {xs ys : Array Value} {lo : Addr} {h h' : Heap} {ts : List Addr} (g : TwG xs ys lo h ts) (hk : ∀ c o, lo < c → h.get? c = some o → h'.get? c = some o) : TwG xs ys lo h' ts :=
  ⟨g.rise, g.over, fun j t hj => let ⟨x, y, e1, e2, e3⟩ := g.two j t hj; ⟨x, y, e1, e2, hk t _ (g.over t (List.mem_of_getElem? hj)) e3⟩⟩
theorem TwG.more {xs ys : Array Value} {lo : Addr} {h : Heap} {ts : List Addr} {n : Addr} {x y : Value} (g : TwG xs ys lo h ts) (hn : ∀ t ∈ ts, t < n) (hl : lo < n) (hx : xs[ts.length]? = some x) (hy : ys[ts.length]? = some y) (hp : IsPair h n x y) : TwG xs ys lo h (ts ++ [n]) := by
  refine ⟨List.pairwise_append.mpr ⟨g.rise, List.pairwise_singleton _ _, fun t ht u hu => by rw [List.mem_singleton.mp hu]; exact hn t ht⟩, fun t ht => ?_, fun j t hj => ?_⟩
  · rcases List.mem_append.mp ht with q | q
    · exact g.over t q
    · rw [List.mem_singleton.mp q]; exact hl
  · rcases Nat.lt_trichotomy j ts.length with q | q | q
    · rw [List.getElem?_append_left q] at hj
      exact g.two j t hj
    · subst q
      have e : n = t := by simpa using hj
      subst e
      exact ⟨x, y, hx, hy, hp⟩
    · rw [List.getElem?_eq_none (by rw [List.length_append, List.length_singleton]; omega)] at hj
      cases hj

/-- S lies above all that the zip is made of -/
structure Below (S z TI TO i1 i2 a b : Addr) : Prop where
  z : z < S
  TI : TI < S
  TO : TO < S
  i1 : i1 < S
  i2 : i2 < S
  a : a < S
  b : b < S

theorem below5 (I n a b : Nat) (h : n = I + 5) (ha : a < I) (hb : b < I) : Below n (I + 4) (I + 2) (I + 3) I (I + 1) a b := by
  refine ⟨?_, ?_, ?_, ?_, ?_, ?_, ?_⟩ <;> (show (_ : Nat) < (_ : Nat)) <;> omega

theorem ZSt.upto {h h' : Heap} {z TI TO i1 i2 a b S : Addr} {k : Nat} (g : ZSt h z TI TO i1 i2 a b S k) (B : Below S z TI TO i1 i2 a b) (hk : ∀ c o, c ≠ S → h.get? c = some o → h'.get? c = some o) : ZSt h' z TI TO i1 i2 a b S k := by
  refine ⟨hk _ _ (Nat.ne_of_lt B.TI) g.pair, g.it1.at fun o e => hk _ o (Nat.ne_of_lt B.i1) e, g.it2.at fun o e => hk _ o (Nat.ne_of_lt B.i2) e, ?_⟩
  rcases g.own with ⟨hz, x, y, hO⟩ | ⟨T, f, oT, hz, hT, n1, n2, n3, n4⟩
  · exact .inl ⟨hk _ _ (Nat.ne_of_lt B.z) hz, x, y, hk _ _ (Nat.ne_of_lt B.TO) hO⟩
  · exact .inr ⟨T, f, oT, hk _ _ (Nat.ne_of_lt B.z) hz, hk _ _ n4 hT, n1, n2, n3, n4⟩

section
variable {pr : Program} {w : World} {A : Around} {s : Shared} {R : Result → Shared → Prop} {z TI TO i1 i2 a b S : Addr} {xs ys : Array Value}
theorem zl_turns (hh : A.handled = none) (D : ZipApart z TI TO i1 i2 a b) (B : Below S z TI TO i1 i2 a b) (res : Value) (hn : min xs.size ys.size ≤ sizeLine) {h0 : Heap}
    (hR : ∀ g tk acc c ts, (∀ x o, x ≠ S → x ≠ z → x ≠ TO → x ≠ i1 → x ≠ i2 → h0.get? x = some o → g.get? x = some o) → g.get? S = some { cls := .type "list", dict := none, data := .seq acc c, slots := #[] } → ts.length = min xs.size ys.size →
      TwG xs ys S g ts → acc.toList = ts.map Value.ref → R (.ok (.ret res)) { s with heap := g, toks := tk }) :
    ∀ (m k : Nat) (h : Heap) (tk c : Nat) (acc : Array Value) (ts : List Addr), k + m = min xs.size ys.size → ts.length = k → ZSt h z TI TO i1 i2 a b S k → h.IsTuple a xs → h.IsTuple b ys →
      (∀ x o, x ≠ S → x ≠ z → x ≠ TO → x ≠ i1 → x ≠ i2 → h0.get? x = some o → h.get? x = some o) → h.get? S = some { cls := .type "list", dict := none, data := .seq acc c, slots := #[] } → acc.toList = ts.map Value.ref → TwG xs ys S h ts →
      codeAny (model pr w) A (.builtin "list.extend.loop" ⟨[.ref S, .ref z, res], []⟩) R { s with heap := h, toks := tk } := by
  intro m
  induction m with
  | zero =>
    intro k h tk c acc ts hm hl g ha hb hk hS hacc G
    refine codeAny_builtin PySem.F.entry_extend_loop ?_
    rw [Around.under_plainId PySem.F.plain_extend_loop _]
    show wpAny _ A.in1 (pyNext (.ref z) >>= _) _ _ _
    have he : xs[k]? = none ∨ ys[k]? = none := by
      rcases Nat.le_total xs.size ys.size with q | q
      · exact .inl (Array.getElem?_eq_none (by omega))
      · exact .inr (Array.getElem?_eq_none (by omega))
    refine wpAny_bind (ZSt.done (s := { s with heap := h, toks := tk }) (A := A.in1) hh g D ha hb he fun g1 k1 => ?_)
    refine wpAny_pure (hR g1 tk acc c ts (fun x o n0 n1 n2 n3 n4 e => k1 x o n1 n2 n3 n4 (hk x o n0 n1 n2 n3 n4 e)) (k1 S _ (Nat.ne_of_gt B.z) (Nat.ne_of_gt B.TO) (Nat.ne_of_gt B.i1) (Nat.ne_of_gt B.i2) hS) (by omega) ?_ hacc)
    exact G.kept fun x o n e => k1 x o (Nat.ne_of_gt (Nat.lt_trans B.z n)) (Nat.ne_of_gt (Nat.lt_trans B.TO n)) (Nat.ne_of_gt (Nat.lt_trans B.i1 n)) (Nat.ne_of_gt (Nat.lt_trans B.i2 n)) e
  | succ m ih =>
    intro k h tk c acc ts hm hl g ha hb hk hS hacc G
    have hx : xs[k]? = some xs[k] := Array.getElem?_eq_getElem (by omega)
    have hy : ys[k]? = some ys[k] := Array.getElem?_eq_getElem (by omega)
    have hsz : acc.size = k := by rw [← Array.length_toList, hacc, List.length_map, hl]
    have hSl : S < h.objs.size := Heap.lt_size hS
    refine codeAny_builtin PySem.F.entry_extend_loop ?_
    rw [Around.under_plainId PySem.F.plain_extend_loop _]
    show wpAny _ A.in1 (pyNext (.ref z) >>= _) _ _ _
    refine wpAny_bind (ZSt.item (s := { s with heap := h, toks := tk }) g D hSl ha hb hx hy fun g1 st ht hgs k1 => ?_)
    dsimp only at ht hgs k1 ⊢
    have kS := k1 S _ (Nat.ne_of_gt B.z) (Nat.ne_of_gt B.TO) (Nat.ne_of_gt B.i1) (Nat.ne_of_gt B.i2) hS
    have off : ∀ x o, x ≠ S → g1.get? x = some o → (g1.update S (Obj.mapSeq fun q => q.push (Value.ref h.objs.size))).get? x = some o := fun x o hne e => by rw [Heap.get?_update_other _ _ (Ne.symm hne)]; exact e
    show wpAny _ A.in1 (updateSeq S (fun q => q.push (Value.ref h.objs.size)) >>= _) _ _ _
    refine wpAny_bind (wpAny_updateSeq kS rfl (wpAny_pure ⟨plainId_quiet PySem.F.plain_extend_loop _, ?_⟩) (by rw [hsz]; omega) (by show (acc.push (Value.ref h.objs.size)).size ≤ sizeLine + 1; rw [Array.size_push, hsz]; omega))
    have k2 : ∀ x o, x ≠ S → x ≠ z → x ≠ TO → x ≠ i1 → x ≠ i2 → h.get? x = some o → (g1.update S (Obj.mapSeq fun q => q.push (Value.ref h.objs.size))).get? x = some o := fun x o n0 n1 n2 n3 n4 e => off x o n0 (k1 x o n1 n2 n3 n4 e)
    refine ih (k + 1) _ tk _ (acc.push (Value.ref h.objs.size)) (ts ++ [h.objs.size]) (by omega) (by rw [List.length_append, hl]; rfl) (st.upto B off) (ha.at fun o e => k2 a o (Nat.ne_of_lt B.a) D.l1z D.l1TO D.l1i1 D.l1i2 e) (hb.at fun o e => k2 b o (Nat.ne_of_lt B.b) D.l2z D.l2TO D.l2i1 D.l2i2 e)
      (fun x o n0 n1 n2 n3 n4 e => k2 x o n0 n1 n2 n3 n4 (hk x o n0 n1 n2 n3 n4 e)) (Heap.get?_update_self _ kS rfl) (by rw [Array.toList_push, hacc, List.map_append]; rfl) ?_
    refine (G.kept fun x o n e => k2 x o (Nat.ne_of_gt n) (Nat.ne_of_gt (Nat.lt_trans B.z n)) (Nat.ne_of_gt (Nat.lt_trans B.TO n)) (Nat.ne_of_gt (Nat.lt_trans B.i1 n)) (Nat.ne_of_gt (Nat.lt_trans B.i2 n)) e).more (fun t ht => G.held ht) hSl (by rw [hl]; exact hx) (by rw [hl]; exact hy) (off _ _ (Nat.ne_of_gt hSl) ht)
end
section
variable {pr : Program} {w : World} {A : Around} {E : Value → Shared → Prop} {s : Shared} {z TI TO i1 i2 a b : Addr} {xs ys : Array Value}
theorem zip_hint (hT : s.TypeIs (.ref z) "zip") {Q : Bool → Shared → Prop} (h : Q true s) : wpAny (model pr w) A (Builtin.List.listLengthHint (.ref z)) Q E s := by
  unfold Builtin.List.listLengthHint
  refine wpAny_bind (wpAny_specialOf hT zip_len0 ?_)
  show wpAny _ A (specialOf (Value.ref z) (Str.ofString "__length_hint__") >>= _) _ _ _
  exact wpAny_bind (wpAny_specialOf hT zip_hint0 (wpAny_pure h))
theorem zl_fill {R : Result → Shared → Prop} {S : Addr} {c0 : Nat} (hh : A.handled = none) (D : ZipApart z TI TO i1 i2 a b) (B : Below S z TI TO i1 i2 a b) (hz : IsZip s.heap z TI TO .none) (g : ZSt s.heap z TI TO i1 i2 a b S 0) (ha : s.heap.IsTuple a xs) (hb : s.heap.IsTuple b ys) (res : Value) (hn : min xs.size ys.size ≤ sizeLine)
    (hS : s.heap.get? S = some { cls := .type "list", data := .seq #[] c0 })
    (hR : ∀ g tk acc c ts, (∀ x o, x ≠ S → x ≠ z → x ≠ TO → x ≠ i1 → x ≠ i2 → s.heap.get? x = some o → g.get? x = some o) → g.get? S = some { cls := .type "list", dict := none, data := .seq acc c, slots := #[] } → ts.length = min xs.size ys.size →
      TwG xs ys S g ts → acc.toList = ts.map Value.ref → R (.ok (.ret res)) { s with heap := g, toks := tk }) :
    wpAny (model pr w) A.in1 (Builtin.List.listExtendWith (.ref S) (.ref z) res)
      (fun fin s1 => match fin with | .done f => R (.ok f) s1 | .again c1 => c1.quiet = true ∧ codeAny (model pr w) A c1 R s1) (fun e s1 => R (.error e) s1) s := by
  have nz : S ≠ z := Nat.ne_of_gt B.z
  have go : ∀ (h : Heap) (c tk : Nat), (∀ x o, x ≠ S → s.heap.get? x = some o → h.get? x = some o) → h.get? S = some { cls := .type "list", data := .seq #[] c } → codeAny (model pr w) A (.builtin "list.extend.loop" ⟨[.ref S, .ref z, res], []⟩) R { s with heap := h, toks := tk } := by
    intro h c tk k hS1
    exact zl_turns hh D B res hn hR (min xs.size ys.size) 0 h tk c #[] [] (Nat.zero_add _) rfl (g.upto B k) (ha.at fun o e => k a o (Nat.ne_of_lt B.a) e) (hb.at fun o e => k b o (Nat.ne_of_lt B.b) e) (fun x o n _ _ _ _ e => k x o n e) hS1 rfl
      ⟨List.Pairwise.nil, (fun _ q => nomatch q), fun j t q => by simp at q⟩
  unfold Builtin.List.listExtendWith
  refine wpAny_bind (wpAny_typeOf (T := "zip") g.ty ?_)
  have q1 : Builtin.List.listSameRef (.ref S) (.ref z) = false := by simp [Builtin.List.listSameRef, nz]
  have q2 : (Value.type "zip" == Value.type "list") = false := by decide
  have q3 : (Value.type "zip" == Value.type "tuple") = false := by decide
  simp only [q1, q2, q3, Bool.or_false, Bool.false_eq_true, if_false]
  refine wpAny_bind (wpAny_pyIter_zip hz ?_)
  refine wpAny_bind (wpAny_holding (zip_hint g.ty ?_))
  refine wpAny_ite_split (fun _ => ?_) (fun _ => wpAny_pure ⟨plainId_quiet PySem.F.plain_extend_loop _, go _ c0 _ (fun x o _ e => e) hS⟩)
  refine wpAny_bind (wpAny_rule (wpAny_bind ?_))
  show wpAny _ _ (updateSeq S (fun q => q.push .none) >>= fun _ => updateSeq S (fun q => q.pop)) _ _ _
  refine wpAny_bind (wpAny_updateSeq hS rfl ?_)
  have u1 := Heap.get?_update_self (Obj.mapSeq (fun q => q.push Value.none)) hS rfl
  refine wpAny_updateSeq (hz := by seq_fits) u1 rfl ?_
  have u2 := Heap.get?_update_self (Obj.mapSeq (fun q => q.pop)) u1 rfl
  refine wpAny_pure ⟨plainId_quiet PySem.F.plain_extend_loop _, go _ _ _ (fun x o hne e => ?_) u2⟩
  rw [Heap.get?_update_other _ _ (Ne.symm hne), Heap.get?_update_other _ _ (Ne.symm hne)]
  exact e
theorem zl_start {R : Result → Shared → Prop} {S : Addr} (hh : A.handled = none) (D : ZipApart z TI TO i1 i2 a b) (B : Below S z TI TO i1 i2 a b) (hz : IsZip s.heap z TI TO .none) (g : ZSt s.heap z TI TO i1 i2 a b S 0) (ha : s.heap.IsTuple a xs) (hb : s.heap.IsTuple b ys) (hn : min xs.size ys.size ≤ sizeLine)
    (hS : s.heap.get? S = some { cls := .type "list", data := .seq #[] })
    (hR : ∀ g tk acc c ts, (∀ x o, x ≠ S → x ≠ z → x ≠ TO → x ≠ i1 → x ≠ i2 → s.heap.get? x = some o → g.get? x = some o) → g.get? S = some { cls := .type "list", dict := none, data := .seq acc c, slots := #[] } → ts.length = min xs.size ys.size →
      TwG xs ys S g ts → acc.toList = ts.map Value.ref → R (.ok (.ret .none)) { s with heap := g, toks := tk }) :
    wpAny (model pr w) A.in1 (Builtin.«list.__init__» ⟨[.ref S, .ref z], []⟩)
      (fun fin s1 => match fin with | .done f => R (.ok f) s1 | .again c1 => c1.quiet = true ∧ codeAny (model pr w) A c1 R s1) (fun e s1 => R (.error e) s1) s := by
  show wpAny _ _ (do let old ← Builtin.List.listItems (.ref S); Builtin.List.listUpdate (.ref S) (fun _ => #[]); letGo old.toList.reverse; Builtin.List.listExtendWith (.ref S) (.ref z) .none) _ _ s
  refine wpAny_bind ?_
  unfold Builtin.List.listItems
  refine wpAny_bind (wpAny_seqItems hS rfl (wpAny_pure ?_))
  show wpAny _ _ (updateSeq S (fun _ => #[]) >>= fun _ => letGo (#[] : Array Value).toList.reverse >>= fun _ => Builtin.List.listExtendWith (.ref S) (.ref z) .none) _ _ s
  refine wpAny_bind (wpAny_updateSeq hS rfl ?_)
  have u1 := Heap.get?_update_self (Obj.mapSeq (fun _ => (#[] : Array Value))) hS rfl
  have off : ∀ x o, x ≠ S → s.heap.get? x = some o → (s.heap.update S (Obj.mapSeq (fun _ => (#[] : Array Value)))).get? x = some o := fun x o hne e => by rw [Heap.get?_update_other _ _ (Ne.symm hne)]; exact e
  refine wpAny_bind (wpAny_letGo ?_)
  refine zl_fill hh D B (off _ _ (Nat.ne_of_lt B.z) hz) (g.upto B off) (ha.at fun o e => off a o (Nat.ne_of_lt B.a) e) (hb.at fun o e => off b o (Nat.ne_of_lt B.b) e) .none hn u1 fun g1 tk acc c ts k e1 e2 e3 e4 => ?_
  exact hR g1 tk acc c ts (fun x o n0 n1 n2 n3 n4 e => k x o n0 n1 n2 n3 n4 (off x o n0 e)) e1 e2 e3 e4
theorem zl_call {Q : Value → Shared → Prop} (hh : A.handled = none) (D : ZipApart z TI TO i1 i2 a b) (B : Below s.heap.objs.size z TI TO i1 i2 a b) (hz : IsZip s.heap z TI TO .none) (g : ZSt s.heap z TI TO i1 i2 a b s.heap.objs.size 0) (ha : s.heap.IsTuple a xs) (hb : s.heap.IsTuple b ys) (hn : min xs.size ys.size ≤ sizeLine)
    (hQ : ∀ g tk acc c ts, (∀ x o, x ≠ z → x ≠ TO → x ≠ i1 → x ≠ i2 → s.heap.get? x = some o → g.get? x = some o) → g.get? s.heap.objs.size = some { cls := .type "list", dict := none, data := .seq acc c, slots := #[] } → ts.length = min xs.size ys.size →
      TwG xs ys s.heap.objs.size g ts → acc.toList = ts.map Value.ref → Q (.ref s.heap.objs.size) { s with heap := g, toks := tk }) :
    wpAny (model pr w) A (call (.type "list") [.ref z]) Q E s := by
  refine callType_codes (Q₁ := fun o s1 => o = .ref s.heap.objs.size ∧ s1 = { s with heap := s.heap.push { cls := .type "list", data := .seq #[] } }) PySem.F.called_list (PySem.F.typeCall_list_1 _) PySem.F.entry_list_init (code_list_new _ ⟨rfl, rfl⟩) fun o s1 ⟨e1, e2⟩ => ?_
  subst e1 e2
  have hS : (s.heap.push { cls := .type "list", data := .seq #[] }).get? s.heap.objs.size = some { cls := .type "list", data := .seq #[] } := Heap.get?_push_size _ rfl
  have up : ∀ x o, s.heap.get? x = some o → (s.heap.push { cls := .type "list", data := .seq #[] }).get? x = some o := fun x o e => Heap.get?_push_of_some _ e
  refine ⟨⟨_, hS, rfl⟩, PySem.F.args_list_init_2 _ _, ?_⟩
  refine zl_start (A := A.in1) hh D B (up _ _ hz) (g.upto B fun x o _ e => up x o e) (ha.at fun o e => up a o e) (hb.at fun o e => up b o e) hn hS fun g1 tk acc c ts k q1 q2 q3 q4 => ⟨rfl, ?_⟩
  exact hQ g1 tk acc c ts (fun x o n1 n2 n3 n4 e => k x o (Nat.ne_of_lt (Heap.lt_size e)) n1 n2 n3 n4 (up x o e)) q1 q2 q3 q4
end

/-! ## what the proof of a program sees of it -/
def layT : Hp → List Addr → List (V × V) → Hp
  | H, t :: ts, q :: qs => layT (upd H t (.tup [q.1, q.2])) ts qs
  | H, _, _ => H
theorem layT_off {c : Addr} : ∀ (ts : List Addr) (qs : List (V × V)) (H : Hp), c ∉ ts → layT H ts qs c = H c
  | [], _, _, _ => rfl
  | _ :: _, [], _, _ => rfl
  | t :: ts, q :: qs, H, hc => (layT_off ts qs _ fun z => hc (List.mem_cons_of_mem _ z)).trans (upd_ne fun z => hc (by rw [z]; exact List.mem_cons_self))
theorem layT_at : ∀ (ts : List Addr) (qs : List (V × V)) (H : Hp), ts.length = qs.length → ts.Nodup → ∀ (j : Nat) (t : Addr), ts[j]? = some t → ∃ q, qs[j]? = some q ∧ layT H ts qs t = some (.tup [q.1, q.2])
  | [], _, _, _, _, j, t, h => by simp at h
  | _ :: _, [], _, h, _, _, _, _ => by cases h
  | t :: ts, q :: qs, H, h, nd, 0, u, e => by
    have e1 : t = u := Option.some.inj e
    subst e1
    exact ⟨q, rfl, (layT_off ts qs _ (List.nodup_cons.mp nd).1).trans upd_same⟩
  | t :: ts, q :: qs, H, h, nd, j + 1, u, e => layT_at ts qs _ (Nat.succ.inj h) (List.nodup_cons.mp nd).2 j u e

/-- list(zip(e1, e2)) of two tuples -/
def tListZip (K : PySem.W.Frag) (ta : TA) : TE := fun σ H Q => ta σ H fun vs H1 => ∃ a b xs ys, vs = [V.ref a, .ref b] ∧ SqT K H1 a xs ∧ SqT K H1 b ys ∧
  ∀ (H2 : Hp) (p : Addr) (ts : List Addr), (∀ c o, H1 c = some o → H2 c = some o) → H1 p = none → (∀ t ∈ ts, H1 t = none) → p ∉ ts → H2 p = some (.lst (ts.map V.ref)) → ts.length = (xs.zip ys).length → (∀ (j : Nat) (t : Addr), ts[j]? = some t → ∃ q, (xs.zip ys)[j]? = some q ∧ H2 t = some (.tup [q.1, q.2])) → Q (.ref p) H2
theorem vals_refs' : ∀ ts : List Addr, Vals (ts.map V.ref) (ts.map Value.ref)
  | [] => .nil
  | _ :: ts => .cons rfl (vals_refs' ts)
section
variable {X : Cx} {e1 e2 : Expr} {ta : TA} {p p2 cpos pos : Pos}
theorem pe_listZip (hc : X.calm = true) (ha : PA X [e1, e2] ta) (hg : Gl X "list") (hm : X.mg "list" = none) (hv : bootBuiltins "list" = some (.type "list")) (hgz : Gl X "zip") (hmz : X.mg "zip" = none)
    (hs : starEach [e1, e2] X.env = (false, eval e1 X.env) :: starEach [e2] X.env := by rfl) (hpl : (backTo cpos (starEach [e2] X.env)).any (·.1) = false := by rfl)
    (hs1 : starEach [.Call (.Name "zip" p2) [e1, e2] [] cpos] X.env = (false, eval (.Call (.Name "zip" p2) [e1, e2] [] cpos) X.env) :: starEach [] X.env := by rfl) :
    PE X (.Call (.Name "list" p) [.Call (.Name "zip" p2) [e1, e2] [] cpos] [] pos) (tListZip X.K ta) := by
  refine ⟨fun pins s σ H Q I hq => ?_⟩
  refine wpAny_Call_Name_kw (ld_blt I hg hm hv ?_)
  refine PyProof.Rows.callWith_type1 ?_ hs1 rfl
  rw [hs1]
  show wpAny _ _ (spliced ((false, eval (.Call (.Name "zip" p2) [e1, e2] [] cpos) X.env) :: backTo pos (starEach [] X.env))) _ _ s
  refine Calls.spliced_cons ?_
  refine Call_ (ld_blt I hgz hmz PyProof.Rows.boot_zip (PyProof.Rows.callWith_type1 (thn (ha.run cpos pins s σ H _ I hq) fun us s1 ⟨vs, H1, I1, r1, a, b, xs, ys, ex, hqx, hqy, q⟩ => ?_) hs hpl))
  subst ex
  cases r1 with
  | cons r rr =>
  cases rr with
  | cons r' rr =>
  cases rr
  cases r
  cases r'
  obtain ⟨its, rv, t1, z1⟩ := I1.tuple hqx
  obtain ⟨its2, rv2, t2, z2⟩ := I1.tuple hqy
  obtain ⟨o1, ho1, _⟩ := id t1
  obtain ⟨o2, ho2, _⟩ := id t2
  have l1 := Heap.lt_size ho1
  have l2 := Heap.lt_size ho2
  refine RZ.call_zipT (show s1.heap.IsTuple a its.toArray from t1) (show s1.heap.IsTuple b its2.toArray from t2) fun h1 hz hTI hTO i1 i2 hsz hk => ?_
  refine Calls.spliced_nil ?_
  have D := PySem.W.ktu_apart s1.heap.objs.size a b l1 l2
  have B := below5 s1.heap.objs.size h1.objs.size a b hsz l1 l2
  have hn : min its.toArray.size its2.toArray.size = (xs.zip ys).length := by
    rw [List.length_zip, List.size_toArray, List.size_toArray, rv.length, rv2.length]
  have hle : min its.toArray.size its2.toArray.size ≤ sizeLine := by
    have e : its.toArray.size = xs.length := by rw [List.size_toArray, rv.length]
    omega
  refine zl_call (s := { s1 with heap := h1 }) (I1.ok.hd hc) D B hz ⟨hTI, i1, i2, .inl ⟨hz, _, _, hTO⟩⟩ ((show s1.heap.IsTuple a its.toArray from t1).at fun o e => hk a o e) ((show s1.heap.IsTuple b its2.toArray from t2).at fun o e => hk b o e) hle fun g tk acc c ts k hS hl G hacc => ?_
  dsimp only at k hS G ⊢
  have kk : ∀ x o, s1.heap.get? x = some o → g.get? x = some o := fun x o e => by
    have l := Heap.lt_size e
    exact k x o (Nat.ne_of_lt (Nat.lt_of_lt_of_le l (Nat.le_add_right _ _))) (Nat.ne_of_lt (Nat.lt_of_lt_of_le l (Nat.le_add_right _ _))) (Nat.ne_of_lt l) (Nat.ne_of_lt (Nat.lt_of_lt_of_le l (Nat.le_add_right _ _))) (hk x o e)
  have hs5 : s1.heap.objs.size ≤ h1.objs.size := by rw [hsz]; exact Nat.le_add_right _ _
  have new : ∀ t ∈ ts, H1 t = none := fun t ht => I1.hok.fresh (Nat.le_trans hs5 (Nat.le_of_lt (G.over t ht)))
  have newS : H1 h1.objs.size = none := I1.hok.fresh hs5
  have nS : h1.objs.size ∉ ts := fun q => Nat.lt_irrefl _ (G.over _ q)
  have nd : ts.Nodup := List.Pairwise.imp (fun {a b} (h : a < b) => Nat.ne_of_lt h) G.rise
  have low : ∀ x o, s1.heap.get? x = some o → x ∉ ts ∧ x ≠ h1.objs.size := fun x o e => by
    have l := Heap.lt_size e
    exact ⟨fun q => Nat.lt_irrefl _ (Nat.lt_of_lt_of_le (Nat.lt_trans (G.over x q) l) hs5), Nat.ne_of_lt (Nat.lt_of_lt_of_le l hs5)⟩
  have off : ∀ x, x ∉ ts → x ≠ h1.objs.size → layT (upd H1 h1.objs.size (.lst (ts.map V.ref))) ts (xs.zip ys) x = H1 x := fun x n1 n2 => by rw [layT_off ts _ _ n1, upd_ne n2]
  have kp : ∀ x u, H1 x = some u → layT (upd H1 h1.objs.size (.lst (ts.map V.ref))) ts (xs.zip ys) x = some u := fun x u e => by
    rw [off x (fun q => by rw [new x q] at e; cases e) (fun q => by rw [q, newS] at e; cases e)]
    exact e
  have eS : layT (upd H1 h1.objs.size (.lst (ts.map V.ref))) ts (xs.zip ys) h1.objs.size = some (.lst (ts.map V.ref)) := by rw [layT_off ts _ _ nS, upd_same]
  have atT := layT_at ts (xs.zip ys) (upd H1 h1.objs.size (.lst (ts.map V.ref))) (by omega) nd
  refine ⟨.ref _, _, ?_, rfl, q _ _ ts kp newS new nS eS (by omega) atT⟩
  refine I1.call' (ch := []) rfl ⟨fun x o e _ _ _ => kk x o e, fun x o e _ _ _ => ⟨o.slots, kk x o e⟩, fun x o e n _ => ?_, fun x o e _ => ⟨o, kk x o e⟩, fun x us e => kp x _ e, fun x o u e => kp x _ e, fun x ps e => ⟨#[], by rw [kp x _ e]; simp⟩⟩ (fun x u e => ?_) I1.bare fun x q => by simp at q
  · obtain ⟨n1, n2⟩ := low x o e
    rw [off x n1 n2]
    exact n
  · by_cases hx : x ∈ ts
    · obtain ⟨j, hj⟩ := List.mem_iff_getElem?.mp hx
      obtain ⟨q1, f1, f2⟩ := atT j x hj
      rw [f2] at e
      cases e
      obtain ⟨v1, v2, g1, g2, g3⟩ := G.two j x hj
      obtain ⟨hzx, hzy⟩ := List.getElem?_zip_eq_some.mp f1
      obtain ⟨w1, y1, rw1⟩ := rv.get hzx
      obtain ⟨w2, y2, rw2⟩ := rv2.get hzy
      have c1 : w1 = v1 := by simp only [List.getElem?_toArray] at g1; rw [y1] at g1; exact Option.some.inj g1
      have c2 : w2 = v2 := by simp only [List.getElem?_toArray] at g2; rw [y2] at g2; exact Option.some.inj g2
      subst c1 c2
      exact ⟨by show 2 ≤ sizeLine; decide, [w1, w2], .cons rw1 (.cons rw2 .nil), ⟨_, g3, rfl, _, rfl⟩⟩
    · by_cases hx2 : x = h1.objs.size
      · subst hx2
        rw [eS] at e
        cases e
        refine ⟨by rw [List.length_map]; omega, acc.toList, c, by rw [hacc]; exact vals_refs' ts, ?_⟩
        rw [Array.toArray_toList]
        exact hS
      · rw [off x hx hx2] at e
        exact (I1.hok x u e).stay (fun d v _ y => kk d v y) (fun d y => kp d _ y) fun d us y => kp d _ y
end
end Lf

set_option maxHeartbeats 4000000
namespace Lf
open PySem PySem.Spec PyProof.Rows L2

/-! ## expressions that give known data -/
def Gv (t : TE) (σ : L2.St) (H : Hp) (d : PyData) : Prop := ∀ H1, Same H H1 → ∀ Q : VK, (∀ v H', Same H1 H' → Dd H' v d → Q v H') → t σ H1 Q
def GvA (t : TA) (σ : L2.St) (H : Hp) (ds : List PyData) : Prop := ∀ H1, Same H H1 → ∀ Q : List V → Hp → Prop, (∀ vs H', Same H1 H' → DdAll H' vs ds → Q vs H') → t σ H1 Q
/-- so many names hold these data -/
structure Hs (H : Hp) (σ : L2.St) (ds : List (Option PyData)) : Prop where
  len : σ.length = ds.length
  get : ∀ (i : Nat) (d : PyData), ds[i]? = some (some d) → ∃ v, σ[i]? = some (some v) ∧ Dd H v d
theorem Hs.mono {H H' : Hp} {σ : L2.St} {ds : List (Option PyData)} (h : Hs H σ ds) (s : Same H H') : Hs H' σ ds := ⟨h.len, fun i d e => let ⟨v, h1, h2⟩ := h.get i d e; ⟨v, h1, h2.mono s⟩⟩
theorem Hs.set {H : Hp} {σ : L2.St} {ds : List (Option PyData)} {i : Nat} {v : V} {d : PyData} (h : Hs H σ ds) (hd : Dd H v d) : Hs H (σ.set i (some v)) (ds.set i (some d)) := by
  refine ⟨by rw [List.length_set, List.length_set]; exact h.len, fun j e hj => ?_⟩
  rw [List.getElem?_set] at hj ⊢
  by_cases hij : i = j
  · rw [if_pos hij] at hj ⊢
    split at hj
    · rename_i hl
      cases hj
      exact ⟨v, by rw [if_pos (by have := h.len; omega)], hd⟩
    · cases hj
  · rw [if_neg hij] at hj ⊢
    exact h.get j e hj
theorem small0 {n : Nat} (h : n ≤ 1000) : n ≤ sizeLine := Nat.le_of_lt (small1000 h)
section
variable {σ : L2.St} {H : Hp} {ds : List (Option PyData)}
theorem gv_int {i : Int} : Gv (tC (.int i)) σ H (.int i) := fun H1 _ Q q => q _ H1 (.refl _) (.int i)
theorem gv_str {x : Str} : Gv (tC (.str x)) σ H (.str x) := fun H1 _ Q q => q _ H1 (.refl _) (.str x)
theorem gv_at {i : Nat} {d : PyData} (hs : Hs H σ ds) (e : ds[i]? = some (some d)) : Gv (tVar i) σ H d := fun H1 s1 Q q => by
  obtain ⟨v, h1, h2⟩ := hs.get i d e
  exact ⟨v, h1, q v H1 (.refl _) (h2.mono s1)⟩
theorem gva_nil : GvA tNil σ H [] := fun H1 _ Q q => q [] H1 (.refl _) .nil
theorem gva_cons {te : TE} {tr : TA} {d : PyData} {es : List PyData} (h : Gv te σ H d) (hr : GvA tr σ H es) : GvA (tCons te tr) σ H (d :: es) := fun H1 s1 Q q =>
  h H1 s1 _ fun v H2 s2 hd => hr H2 (s1.trans s2) _ fun vs H3 s3 hds => q (v :: vs) H3 (s2.trans s3) (.cons (hd.mono s3) hds)
theorem gv_tup {ta : TA} {es : List PyData} (h : GvA ta σ H es) (hl : es.length ≤ 1000) : Gv (tTup ta) σ H (.tuple es) := fun H1 s1 Q q =>
  h H1 s1 _ fun vs H2 s2 hd => ⟨by rw [hd.length]; exact small0 hl, fun p np => q (.ref p) _ (s2.trans (same_new np _)) (.tup upd_same (hd.mono (same_new np _)))⟩
theorem gv_lst {ta : TA} {es : List PyData} (h : GvA ta σ H es) (hl : es.length ≤ 1000) : Gv (tLst ta) σ H (.list es) := fun H1 s1 Q q =>
  h H1 s1 _ fun vs H2 s2 hd => ⟨by rw [hd.length]; exact small0 hl, fun p np => q (.ref p) _ (s2.trans (same_new np _)) (.lst upd_same (hd.mono (same_new np _)))⟩
theorem gv_step {T : TE} {rest : TS} {D : Ends} {d : PyData} {i : Nat} (hs : Hs H σ ds) (h : Gv T σ H d) (k : ∀ v H', Same H H' → Hs H' (σ.set i (some v)) (ds.set i (some d)) → rest D (σ.set i (some v)) H') : tSeq (tAsg T (gName i)) rest D σ H :=
  h H (.refl H) _ fun v H' s hd => k v H' s ((hs.mono s).set hd)
/-- l + m of two lists: a list that was not there -/
theorem cat_new {ta tb : TE} {es fs : List PyData} {H1 : Hp} {Q : VK} (s1 : Same H H1) (h : Gv ta σ H (.list es)) (h2 : Gv tb σ H (.list fs)) (hl : es.length + fs.length ≤ 1000)
    (q : ∀ p xs H', H1 p = none → Same H1 H' → H' p = some (.lst xs) → DdAll H' xs (es ++ fs) → Q (.ref p) H') : tOp rCat ta tb σ H1 Q :=
  h H1 s1 _ fun v H2 s2 hd => h2 H2 (s1.trans s2) _ fun u H3 s3 hu => by
    have hd3 := Dd.mono s3 hd
    cases hd3 with
    | @lst a xs _ a1 a2 =>
      cases hu with
      | @lst b ys _ b1 b2 =>
        refine ⟨a, b, xs, ys, rfl, rfl, a1, b1, by rw [a2.length, b2.length]; exact small0 hl, fun p np => ?_⟩
        have s4 := same_new np (.lst (xs ++ ys))
        have sb := s2.trans s3
        have n1 : H1 p = none := by
          cases e : H1 p with
          | none => rfl
          | some o => rw [sb p o e] at np; cases np
        exact q p _ _ n1 (sb.trans s4) upd_same ((a2.mono s4).append (b2.mono s4))
theorem gv_cat {ta tb : TE} {es fs : List PyData} (h : Gv ta σ H (.list es)) (h2 : Gv tb σ H (.list fs)) (hl : es.length + fs.length ≤ 1000) : Gv (tOp rCat ta tb) σ H (.list (es ++ fs)) := fun H1 s1 Q q =>
  cat_new s1 h h2 hl fun p xs H' _ s hp hx => q (.ref p) H' s (.lst hp hx)
/-- len of a tuple -/
theorem gv_len {K : PySem.W.Frag} {te : TE} {es : List PyData} {n : Int} (h : Gv te σ H (.tuple es)) (hn : n = (es.length : Int)) : Gv (tCB (fun xs H Q => ∃ p ys, xs = [.ref p] ∧ (SqL K H p ys ∨ SqT K H p ys) ∧ Q (.int ys.length) H) (tCons te tNil)) σ H (.int n) := fun H1 s1 Q q =>
  h H1 s1 _ fun v H2 s2 hd => by
    cases hd with
    | @tup a xs _ a1 a2 =>
      refine ⟨a, xs, rfl, .inr (.of a1), ?_⟩
      rw [a2.length, ← hn]
      exact q _ H2 s2 (.int n)
/-- tuple(l) of a list -/
theorem gv_frozen {K : PySem.W.Frag} {te : TE} {es : List PyData} (h : Gv te σ H (.list es)) :
    Gv (tCB (fun xs H Q => ∃ p ys, xs = [.ref p] ∧ ((SqL K H p ys ∧ ∀ l, H l = none → Q (.ref l) (upd H l (.tup ys))) ∨ (SqT K H p ys ∧ Q (.ref p) H))) (tCons te tNil)) σ H (.tuple es) := fun H1 s1 Q q =>
  h H1 s1 _ fun v H2 s2 hd => by
    cases hd with
    | @lst a xs _ a1 a2 => exact ⟨a, xs, rfl, .inl ⟨.of a1, fun p np => q (.ref p) _ (s2.trans (same_new np _)) (.tup upd_same (a2.mono (same_new np _)))⟩⟩
/-- tuple(text) -/
theorem gv_signs {x : Str} {W : List Str} (hx : x.length ≤ 1000) (e : signV x = W.map V.str) : Gv (tCB rTupS (tCons (tC (.str x)) tNil)) σ H (lotT W) := fun H1 s1 Q q =>
  ⟨x, rfl, hx, fun p np => q (.ref p) _ (same_new np _) (.tup upd_same (by rw [e]; exact ddAll_strs W))⟩
/-- t[lo::c] -/
theorem gv_every {K : PySem.W.Frag} {te : TE} {tl : TO} {lo : Option Int} {c : Int} {W U : List Str} (h : Gv te σ H (lotT W)) (hl : ∀ (H1 : Hp) (Q : Option Int → Hp → Prop), Q lo H1 → tl σ H1 Q) (hn : (stepP W.length lo c).2 ≤ 1000) (e : stepL (W.map V.str) (stepP W.length lo c) c = U.map V.str) :
    Gv (tStep K c te tl) σ H (lotT U) := fun H1 s1 Q q =>
  h H1 s1 _ fun v H2 s2 hd => hl H2 _ (by
    cases hd with
    | @tup a xs _ a1 a2 =>
      have ex := dd_strs a2
      subst ex
      refine ⟨a, _, rfl, .of a1, by rw [List.length_map]; exact hn, fun p np => ?_⟩
      rw [List.length_map, e]
      exact q (.ref p) _ (s2.trans (same_new np _)) (.tup upd_same (ddAll_strs U)))
/-- t[1:] -/
theorem gv_tail {te : TE} {tl th : TO} {lo hi : Option Int} {W U : List Str} (h : Gv te σ H (lotT W)) (hl : ∀ (H1 : Hp) (Q : Option Int → Hp → Prop), Q lo H1 → tl σ H1 Q) (hh : ∀ (H1 : Hp) (Q : Option Int → Hp → Prop), Q hi H1 → th σ H1 Q) (e : cutV (W.map V.str) lo hi = U.map V.str) : Gv (tSl rSlC te tl th) σ H (lotT U) := fun H1 s1 Q q =>
  h H1 s1 _ fun v H2 s2 hd => hl H2 _ (hh H2 _ (by
    cases hd with
    | @tup a xs _ a1 a2 =>
      have ex := dd_strs a2
      subst ex
      refine ⟨a, _, rfl, a1, fun p H3 s3 hp => ?_⟩
      rw [e] at hp
      exact q (.ref p) H3 (s2.trans s3) (.tup hp (ddAll_strs U))))
theorem all_at {H : Hp} : ∀ {es : List PyData} {vs : List V}, vs.length = es.length → (∀ (i : Nat) (v : V), vs[i]? = some v → ∃ d, es[i]? = some d ∧ Dd H v d) → DdAll H vs es
  | [], [], _, _ => .nil
  | [], _ :: _, h, _ => by cases h
  | _ :: _, [], h, _ => by cases h
  | d :: es, v :: vs, h, k => .cons (by obtain ⟨d2, e, g⟩ := k 0 v rfl; cases e; exact g) (all_at (Nat.succ.inj h) fun i u e => k (i + 1) u e)
/-- list(zip(t, u)) -/
theorem gv_zip {K : PySem.W.Frag} {ta tb : TE} {U W : List Str} {ps : List (Str × Str)} (h : Gv ta σ H (lotT U)) (h2 : Gv tb σ H (lotT W)) (e : U.zip W = ps) : Gv (tListZip K (tCons ta (tCons tb tNil))) σ H (.list (ps.map pairT)) := fun H1 s1 Q q =>
  h H1 s1 _ fun v H2 s2 hd => h2 H2 (s1.trans s2) _ fun u H3 s3 hu => by
    have hd3 := Dd.mono s3 hd
    cases hd3 with
    | @tup a xs _ a1 a2 =>
      cases hu with
      | @tup b ys _ b1 b2 =>
        have ex := dd_strs a2
        have ey := dd_strs b2
        subst ex ey
        refine ⟨a, b, _, _, rfl, .of a1, .of b1, fun H4 p ts k np nt _ hp hl ht => ?_⟩
        have sk : Same H3 H4 := k
        refine q (.ref p) H4 ((s2.trans s3).trans sk) (.lst hp (all_at ?_ fun i v e1 => ?_))
        · rw [List.length_map, List.length_map, hl, ← e, List.length_zip, List.length_zip, List.length_map, List.length_map]
        · rw [List.getElem?_map] at e1
          cases et : ts[i]? with
          | none => rw [et] at e1; cases e1
          | some t =>
            rw [et] at e1
            cases e1
            obtain ⟨r, f1, f2⟩ := ht i t et
            obtain ⟨z1, z2⟩ := List.getElem?_zip_eq_some.mp f1
            rw [List.getElem?_map] at z1 z2
            cases w1 : U[i]? with
            | none => rw [w1] at z1; cases z1
            | some x =>
              cases w2 : W[i]? with
              | none => rw [w2] at z2; cases z2
              | some y =>
                rw [w1] at z1
                rw [w2] at z2
                have c1 : r.1 = V.str x := (Option.some.inj z1).symm
                have c2 : r.2 = V.str y := (Option.some.inj z2).symm
                rw [c1, c2] at f2
                refine ⟨pairT (x, y), ?_, .tup f2 (.cons (.str x) (.cons (.str y) .nil))⟩
                rw [List.getElem?_map, ← e, List.getElem?_zip_eq_some (z := (x, y)) |>.mpr ⟨w1, w2⟩]
                rfl
theorem ddAll_rev {H : Hp} : ∀ {es : List PyData} {vs : List V}, DdAll H vs es → DdAll H vs.reverse es.reverse
  | [], _, h => by cases h; exact .nil
  | d :: es, _, h => by
    cases h with
    | cons h1 h2 =>
      rw [List.reverse_cons, List.reverse_cons]
      exact (ddAll_rev h2).append (.cons h1 .nil)
/-- l[::-1] -/
theorem gv_rev {K : PySem.W.Frag} {te : TE} {es fs : List PyData} (h : Gv te σ H (.list es)) (e : es.reverse = fs) : Gv (tRevL K te) σ H (.list fs) := fun H1 s1 Q q =>
  h H1 s1 _ fun v H2 s2 hd => by
    cases hd with
    | @lst a xs _ a1 a2 =>
      refine ⟨a, xs, rfl, .of a1, fun p np => q (.ref p) _ (s2.trans (same_new np _)) (.lst upd_same ?_)⟩
      rw [← e]
      exact (ddAll_rev a2).mono (same_new np _)
end
end Lf

set_option maxHeartbeats 4000000
namespace Lf
open PySem PySem.Spec PyProof.Rows L2

/-! ## what a datum holds -/
def seqD : PyData → Bool | .tuple _ => true | .list _ => true | _ => false
def itemsD : PyData → List PyData | .tuple ds => ds | .list ds => ds | _ => []
def pairD (d : PyData) : Option (Str × Str) := match itemsD d with | [.str a, .str b] => some (a, b) | _ => none
theorem sqd_of {H : Hp} {v : V} {d : PyData} {l : List Str} (h : Dd H v d) (hs : seqD d = true) (e : itemsD d = l.map PyData.str) : SqD H v (l.map V.str) := by
  cases h with
  | lst h1 h2 =>
    replace e := (show _ = l.map PyData.str from e)
    subst e
    rw [dd_strs h2] at h1
    exact ⟨_, rfl, .inl h1⟩
  | tup h1 h2 =>
    replace e := (show _ = l.map PyData.str from e)
    subst e
    rw [dd_strs h2] at h1
    exact ⟨_, rfl, .inr h1⟩
  | _ => cases hs
theorem sqd_pair {H : Hp} {v : V} {d : PyData} {p : Str × Str} (h : Dd H v d) (e : pairD d = some p) : SqD H v [.str p.1, .str p.2] := by
  have key : seqD d = true ∧ itemsD d = [p.1, p.2].map PyData.str := by
    unfold pairD at e
    split at e
    · rename_i a b e2
      cases e
      refine ⟨?_, e2⟩
      cases d with
      | tuple _ => rfl
      | list _ => rfl
      | _ => cases e2
    · cases e
  exact sqd_of (l := [p.1, p.2]) h key.1 key.2
theorem pqs_of {H : Hp} {v : V} {d : PyData} {ps : List (Str × Str)} (h : Dd H v d) (hs : seqD d = true) (e : (itemsD d).map pairD = ps.map some) : PqsD H v ps := by
  have key : ∀ (xs : List V) (ds : List PyData), DdAll H xs ds → ds.map pairD = ps.map some → xs.length = ps.length ∧ ∀ (i : Nat) (x : V) (p : Str × Str), xs[i]? = some x → ps[i]? = some p → SqD H x [.str p.1, .str p.2] := by
    intro xs ds h2 e2
    have l1 := h2.length
    have l2 := congrArg List.length e2
    rw [List.length_map, List.length_map] at l2
    refine ⟨l1.trans l2, fun i x p e3 e4 => ?_⟩
    obtain ⟨d2, g1, g2⟩ := h2.get e3
    have e5 : (ds.map pairD)[i]? = (ps.map some)[i]? := by rw [e2]
    rw [List.getElem?_map, List.getElem?_map, g1, e4] at e5
    exact sqd_pair g2 (Option.some.inj e5)
  cases h with
  | @lst a xs ds h1 h2 => exact ⟨xs, ⟨a, rfl, .inl h1⟩, key xs ds h2 e⟩
  | @tup a xs ds h1 h2 => exact ⟨xs, ⟨a, rfl, .inr h1⟩, key xs ds h2 e⟩
  | _ => cases hs

/-! ## the lots of known pairs -/
def tabF (is : List Str) (ps : List (Str × Str)) : List (List Str) := is.map fun i => is.filter fun j => decide (j ∈ reachS is ps i)
structure FitF (is : List Str) (ps : List (Str × Str)) (ls : List (List Str)) : Prop where
  asc : AscS is
  few : is.length ≤ 60
  ok : OkN is
  in' : ∀ p ∈ ps, p.1 ∈ is ∧ p.2 ∈ is
  nd : ls.Nodup
  mem : ∀ l, l ∈ ls ↔ l ∈ tabF is ps
  up : (ls.map lotT).Pairwise fun d e => PySem.W.dataLt e d = false
theorem FitF.lots {is : List Str} {ps : List (Str × Str)} {ls : List (List Str)} {m : Str → Str} (h : FitF is ps ls) (hF : Fine ps m) : AscTo (lotsD is m) (ls.map lotT) := by
  have e : lotsD is m = (tabF is ps).map lotT := by
    unfold lotsD tabF
    rw [List.map_map]
    refine List.map_congr_left fun i hi => ?_
    show lotT _ = lotT _
    congr 1
    unfold lotS
    exact List.filter_congr fun j _ => decide_eq_decide.mpr (reach_iff hF h.in' hi j).symm
  rw [e]
  refine ⟨List.Pairwise.map lotT (fun a b (q : a ≠ b) z => q (lotT_inj z)) h.nd, fun d => ?_, h.up⟩
  constructor
  · intro hd
    obtain ⟨l, hl, rfl⟩ := List.mem_map.mp hd
    exact List.mem_map.mpr ⟨l, (h.mem l).mp hl, rfl⟩
  · intro hd
    obtain ⟨l, hl, rfl⟩ := List.mem_map.mp hd
    exact List.mem_map.mpr ⟨l, (h.mem l).mpr hl, rfl⟩
def chkF (is : List Str) (ps : List (Str × Str)) (ls t : List (List Str)) : Bool :=
  decide (AscS is) && decide (is.length ≤ 60) && (is.all fun i => PyData.canLay0 (.str i)) && (ps.all fun p => decide (p.1 ∈ is) && decide (p.2 ∈ is)) && decide ls.Nodup && (ls.all fun l => decide (l ∈ t)) && (t.all fun l => decide (l ∈ ls)) && decide (tabF is ps = t)
theorem fit_of {is : List Str} {ps : List (Str × Str)} {ls t : List (List Str)} (h : chkF is ps ls t = true) (up : (ls.map lotT).Pairwise fun d e => PySem.W.dataLt e d = false) : FitF is ps ls := by
  unfold chkF at h
  simp only [Bool.and_eq_true, decide_eq_true_eq, List.all_eq_true] at h
  obtain ⟨⟨⟨⟨⟨⟨⟨h1, h2⟩, h3⟩, h4⟩, h5⟩, h6⟩, h7⟩, h8⟩ := h
  exact ⟨h1, h2, h3, h4, h5, fun l => by rw [h8]; exact ⟨h6 l, h7 l⟩, up⟩
section
variable {σ : L2.St} {H : Hp}
theorem from_of {H0 : Hp} {v u : V} {dI dP : PyData} {is : List Str} {ps : List (Str × Str)} {ls : List (List Str)} {Q : VK} (hI : Dd H0 v dI) (hP : Dd H0 u dP) (f : FitF is ps ls) (i1 : seqD dI = true) (i2 : itemsD dI = is.map PyData.str) (p1 : seqD dP = true) (p2 : (itemsD dP).map pairD = ps.map some)
    (q : ∀ y H', Same H0 H' → Dd H' y (.tuple (ls.map lotT)) → Q y H') : spFrom [v, u] H0 Q E0 := by
  refine ⟨v, u, is, ps, rfl, sqd_of hI i1 i2, f.asc, f.few, f.ok, pqs_of hP p1 p2, f.in', fun y es m H' s hF a hd => ?_⟩
  rw [lots_one f.ok a (f.lots hF)] at hd
  exact q y H' s hd
theorem gv_from {ta : TA} {dI dP : PyData} {is : List Str} {ps : List (Str × Str)} {ls : List (List Str)} (h : GvA ta σ H [dI, dP]) (f : FitF is ps ls) (i1 : seqD dI = true) (i2 : itemsD dI = is.map PyData.str) (p1 : seqD dP = true) (p2 : (itemsD dP).map pairD = ps.map some) :
    Gv (tCall spFrom [] E0 ta) σ H (.tuple (ls.map lotT)) := fun H1 s1 Q q =>
  h H1 s1 _ fun vs H2 s2 hd => by
    cases hd with
    | cons h1 h2 =>
      cases h2 with
      | cons h2 h3 =>
        cases h3
        exact from_of h1 h2 f i1 i2 p1 p2 fun y H' s hy => q y H' (s2.trans s) hy
theorem gv_fromK {ta : TA} {dI dP : PyData} {is : List Str} {ps : List (Str × Str)} {ls : List (List Str)} (h : GvA ta σ H [dP, dI]) (f : FitF is ps ls) (i1 : seqD dI = true) (i2 : itemsD dI = is.map PyData.str) (p1 : seqD dP = true) (p2 : (itemsD dP).map pairD = ps.map some) :
    Gv (tCallK spFrom gVFrom E0 tNil ta) σ H (.tuple (ls.map lotT)) := fun H1 s1 Q q =>
  h H1 s1 _ fun vs H2 s2 hd => by
    cases hd with
    | cons h1 h2 =>
      cases h2 with
      | cons h2 h3 =>
        cases h3
        exact from_of h2 h1 f i1 i2 p1 p2 fun y H' s hy => q y H' (s2.trans s) hy

/-! ## the pairs of known lots -/
structure FitJ (ls : List (List Str)) (is : List Str) (ov : List (Str × Str)) : Prop where
  perm : ls.flatten.Perm is
  asc : AscS is
  few : is.length ≤ 60
  ne : ∀ l ∈ ls, l ≠ []
  ov : overL ltB is (fun q => decide (markS ls q.1 = markS ls q.2)) = ov
def chkJ (ls : List (List Str)) (is : List Str) (ov : List (Str × Str)) : Bool :=
  ls.flatten.isPerm is && decide (AscS is) && decide (is.length ≤ 60) && (ls.all fun l => !l.isEmpty) && decide (overL ltB is (fun q => decide (markS ls q.1 = markS ls q.2)) = ov)
theorem fitJ_of {ls : List (List Str)} {is : List Str} {ov : List (Str × Str)} (h : chkJ ls is ov = true) : FitJ ls is ov := by
  unfold chkJ at h
  simp only [Bool.and_eq_true, decide_eq_true_eq, List.all_eq_true] at h
  obtain ⟨⟨⟨⟨h1, h2⟩, h3⟩, h4⟩, h5⟩ := h
  refine ⟨List.isPerm_iff.mp h1, h2, h3, fun l hl e => ?_, h5⟩
  have := h4 l hl
  rw [e] at this
  cases this
theorem gv_joined {te : TE} {d : PyData} {ls : List (List Str)} {is : List Str} {ov : List (Str × Str)} (h : Gv te σ H d) (f : FitJ ls is ov) (hz : frzD d = .tuple (ls.map lotT)) (hw : wf 2 d = true) : Gv (tCall (spJoined 4) [] E0 (tCons te tNil)) σ H (.tuple (ov.map pairT)) := fun H1 s1 Q q =>
  h H1 s1 _ fun v H2 s2 hd => ⟨v, d, ls, is, 2, rfl, hd, hw, by decide, hz, f.perm, f.asc, f.few, f.ne, fun y H' s hy => by rw [f.ov] at hy; exact q y H' (s2.trans s) hy⟩
theorem gv_joinedK {te : TE} {d : PyData} {ls : List (List Str)} {is : List Str} {ov : List (Str × Str)} (h : Gv te σ H d) (f : FitJ ls is ov) (hz : frzD d = .tuple (ls.map lotT)) (hw : wf 2 d = true) : Gv (tCallK (spJoined 4) gVOne E0 tNil (tCons te tNil)) σ H (.tuple (ov.map pairT)) := fun H1 s1 Q q =>
  h H1 s1 _ fun v H2 s2 hd => ⟨v, d, ls, is, 2, rfl, hd, hw, by decide, hz, f.perm, f.asc, f.few, f.ne, fun y H' s hy => by rw [f.ov] at hy; exact q y H' (s2.trans s) hy⟩
end

/-! ## two lists of which each is added to -/
structure Two (H0 H : Hp) (σ : L2.St) (gs es : List PyData) : Prop where
  ex : ∃ p q xs ys, σ[0]? = some (some (.ref p)) ∧ σ[1]? = some (some (.ref q)) ∧ p ≠ q ∧ H0 p = none ∧ H0 q = none ∧ H p = some (.lst xs) ∧ H q = some (.lst ys) ∧ DdAll H xs gs ∧ DdAll H ys es ∧ Same H0 H ∧ σ.length = 4
theorem Two.hs {H0 H : Hp} {σ : L2.St} {gs es : List PyData} (h : Two H0 H σ gs es) : Hs H σ [some (.list gs), some (.list es), none, none] := by
  obtain ⟨p, q, xs, ys, a1, a2, _, _, _, hp, hq, hx, hy, _, hl⟩ := h.ex
  refine ⟨hl, fun i d e => ?_⟩
  match i, e with
  | 0, e => cases e; exact ⟨_, a1, .lst hp hx⟩
  | 1, e => cases e; exact ⟨_, a2, .lst hq hy⟩
  | 2, e => cases e
  | 3, e => cases e
  | i + 4, e => cases e
theorem two_start {H0 H : Hp} {σ : L2.St} {gs es ga ea : List PyData} {tg tu : TE} {rest : TS} {D : Ends} (s0 : Same H0 H) (hs : Hs H σ [some (.list gs), some (.list es), none, none]) (h : Gv tg σ H (.list ga)) (h2 : ∀ σ' H', Gv tu σ' H' (.list ea))
    (hl : gs.length + ga.length ≤ 1000) (hl2 : es.length + ea.length ≤ 1000) (k : ∀ σ' H', Two H0 H' σ' (gs ++ ga) (es ++ ea) → rest D σ' H') :
    tSeq (tAsg (tOp rCat (tVar 0) tg) (gName 0)) (tSeq (tAsg (tOp rCat (tVar 1) tu) (gName 1)) rest) D σ H := by
  refine cat_new (.refl H) (gv_at hs rfl) h hl fun p xs H1 np s1 hp hx => ?_
  have hs1 : Hs H1 (σ.set 0 (some (.ref p))) [some (.list (gs ++ ga)), some (.list es), none, none] := (hs.mono s1).set (i := 0) (.lst hp hx)
  have l4 : σ.length = 4 := hs.len
  have none0 : ∀ {G : Hp} {b : Addr}, Same H0 G → G b = none → H0 b = none := fun {G b} s n => by
    cases e : H0 b with
    | none => rfl
    | some o => rw [s b o e] at n; cases n
  refine cat_new (σ := σ.set 0 (some (.ref p))) (H := H1) (es := es) (.refl H1) (gv_at hs1 rfl) (h2 _ _) hl2 fun r ys H2 nr s2 hr hy => ?_
  have pr : p ≠ r := fun e => by rw [← e, hp] at nr; cases nr
  refine k _ H2 ⟨p, r, xs, ys, ?_, ?_, pr, none0 s0 np, none0 (s0.trans s1) nr, s2 _ _ hp, hr, hx.mono s2, hy, s0.trans (s1.trans s2), ?_⟩
  · rw [List.getElem?_set_ne (by decide), List.getElem?_set_self (by omega)]
  · rw [List.getElem?_set_self (by rw [List.length_set]; omega)]
  · rw [List.length_set, List.length_set]
    exact l4
section
variable {K : PySem.W.Frag} {H0 H : Hp} {σ : L2.St} {gs es : List PyData} {te : TE} {d : PyData} {rest : TS} {D : Ends}
theorem grown {G : Hp} {p : Addr} {xs ys : List V} {fs : List PyData} (hp : G p = some (.lst xs)) (kd : keysD fs = true) (h : DdAll G ys fs) (zs : List V) : DdAll (upd G p (.lst zs)) ys fs := by
  have h1 := DdAll.hid (u := p) ⟨xs, hp⟩ kd h
  have h2 : DdAll (hide p (upd G p (.lst zs))) ys fs := by rw [hide_upd]; exact h1
  exact h2.mono hide_sub
theorem two_left (T : Two H0 H σ gs es) (kg : keysD gs = true) (ke : keysD es = true) (kd : keysD [d] = true) (hl : gs.length < 1000) (h : Gv te σ H d) (k : ∀ H', Two H0 H' σ (gs ++ [d]) es → rest D σ H') : tSeq (tDrop (tBM K "list" rAppend (tVar 0) (tCons te tNil))) rest D σ H := by
  obtain ⟨p, q, xs, ys, a1, a2, ne, n1, n2, hp, hq, hx, hy, s0, l4⟩ := T.ex
  refine ⟨_, a1, .inl ⟨rfl, xs, .of hp⟩, h H (.refl H) _ fun v H1 s1 hd => ⟨p, xs, v, rfl, rfl, s1 _ _ hp, ?_, ?_⟩⟩
  · rw [hx.length]
    exact small1000 (by omega)
  · have hp1 := s1 _ _ hp
    refine k _ ⟨p, q, xs ++ [v], ys, a1, a2, ne, n1, n2, upd_same, (upd_ne ne.symm).trans (s1 _ _ hq), (grown hp1 kg (hx.mono s1) _).append (grown hp1 kd (.cons hd .nil) _), grown hp1 ke (hy.mono s1) _, same_upd (s0.trans s1) n1 _, l4⟩
theorem two_right (T : Two H0 H σ gs es) (kg : keysD gs = true) (ke : keysD es = true) (kd : keysD [d] = true) (hl : es.length < 1000) (h : Gv te σ H d) (k : ∀ H', Two H0 H' σ gs (es ++ [d]) → rest D σ H') : tSeq (tDrop (tBM K "list" rAppend (tVar 1) (tCons te tNil))) rest D σ H := by
  obtain ⟨p, q, xs, ys, a1, a2, ne, n1, n2, hp, hq, hx, hy, s0, l4⟩ := T.ex
  refine ⟨_, a2, .inl ⟨rfl, ys, .of hq⟩, h H (.refl H) _ fun v H1 s1 hd => ⟨q, ys, v, rfl, rfl, s1 _ _ hq, ?_, ?_⟩⟩
  · rw [hy.length]
    exact small1000 (by omega)
  · have hq1 := s1 _ _ hq
    refine k _ ⟨p, q, xs, ys ++ [v], a1, a2, ne, n1, n2, (upd_ne ne).trans (s1 _ _ hp), upd_same, grown hq1 kg (hx.mono s1) _, (grown hq1 ke (hy.mono s1) _).append (grown hq1 kd (.cons hd .nil) _), same_upd (s0.trans s1) n2 _, l4⟩
end
end Lf

set_option maxHeartbeats 16000000
namespace Lf
open PySem PySem.Spec PyProof.Rows L2

/-! ## by hand -/
def hd0 : PyData := .list [.tuple [.tuple [.str "a", .str "b"], .tuple [.str "a", .str "d"], .tuple [.str "b", .str "d"]], .tuple [], .tuple [], .tuple [.tuple [.str "a", .str "c"], .tuple [.str "b", .str "d"]], .tuple [.tuple [.str "a", .str "d"], .tuple [.str "b", .str "c"]], .tuple [.tuple [.str "a", .str "c"], .tuple [.str "a", .str "d"], .tuple [.str "b", .str "e"], .tuple [.str "c", .str "d"]]]
def hd1 : PyData := .list [.tuple [.tuple [.str "a", .str "b"], .tuple [.str "a", .str "d"], .tuple [.str "b", .str "d"]], .tuple [], .tuple [], .tuple [.tuple [.str "a", .str "c"], .tuple [.str "b", .str "d"]], .tuple [.tuple [.str "a", .str "d"], .tuple [.str "b", .str "c"]], .tuple [.tuple [.str "a", .str "c"], .tuple [.str "a", .str "d"], .tuple [.str "b", .str "e"], .tuple [.str "c", .str "d"]]]
def hd2 : PyData := .list [.tuple [.tuple [.str "a", .str "b"], .tuple [.str "a", .str "d"], .tuple [.str "b", .str "d"]], .tuple [], .tuple [], .tuple [.tuple [.str "a", .str "c"], .tuple [.str "b", .str "d"]], .tuple [.tuple [.str "a", .str "d"], .tuple [.str "b", .str "c"]], .tuple [.tuple [.str "a", .str "c"], .tuple [.str "a", .str "d"], .tuple [.str "b", .str "e"], .tuple [.str "c", .str "d"]], .tuple [.tuple [.str "a"], .tuple [.str "b"], .tuple [.str "c"]], .tuple []]
def hd3 : PyData := .list [.tuple [.tuple [.str "a", .str "b"], .tuple [.str "a", .str "d"], .tuple [.str "b", .str "d"]], .tuple [], .tuple [], .tuple [.tuple [.str "a", .str "c"], .tuple [.str "b", .str "d"]], .tuple [.tuple [.str "a", .str "d"], .tuple [.str "b", .str "c"]], .tuple [.tuple [.str "a", .str "c"], .tuple [.str "a", .str "d"], .tuple [.str "b", .str "e"], .tuple [.str "c", .str "d"]], .tuple [.tuple [.str "a"], .tuple [.str "b"], .tuple [.str "c"]], .tuple [], .tuple [.tuple [.str "a", .str "b", .str "d"], .tuple [.str "c"]]]
def hd4 : PyData := .list [.tuple [.tuple [.str "a", .str "b"], .tuple [.str "a", .str "d"], .tuple [.str "b", .str "d"]], .tuple [], .tuple [], .tuple [.tuple [.str "a", .str "c"], .tuple [.str "b", .str "d"]], .tuple [.tuple [.str "a", .str "d"], .tuple [.str "b", .str "c"]], .tuple [.tuple [.str "a", .str "c"], .tuple [.str "a", .str "d"], .tuple [.str "b", .str "e"], .tuple [.str "c", .str "d"]], .tuple [.tuple [.str "a"], .tuple [.str "b"], .tuple [.str "c"]], .tuple [], .tuple [.tuple [.str "a", .str "b", .str "d"], .tuple [.str "c"]]]
def hd5 : PyData := .list [.tuple [.tuple [.str "a", .str "b"], .tuple [.str "a", .str "d"], .tuple [.str "b", .str "d"]], .tuple [], .tuple [], .tuple [.tuple [.str "a", .str "c"], .tuple [.str "b", .str "d"]], .tuple [.tuple [.str "a", .str "d"], .tuple [.str "b", .str "c"]], .tuple [.tuple [.str "a", .str "c"], .tuple [.str "a", .str "d"], .tuple [.str "b", .str "e"], .tuple [.str "c", .str "d"]], .tuple [.tuple [.str "a"], .tuple [.str "b"], .tuple [.str "c"]], .tuple [], .tuple [.tuple [.str "a", .str "b", .str "d"], .tuple [.str "c"]], .tuple [.tuple [.str "a", .str "b", .str "d"], .tuple [.str "c"]]]
def hd6 : PyData := .list [.tuple [.tuple [.str "a", .str "b"], .tuple [.str "a", .str "d"], .tuple [.str "b", .str "d"]], .tuple [], .tuple [], .tuple [.tuple [.str "a", .str "c"], .tuple [.str "b", .str "d"]], .tuple [.tuple [.str "a", .str "d"], .tuple [.str "b", .str "c"]], .tuple [.tuple [.str "a", .str "c"], .tuple [.str "a", .str "d"], .tuple [.str "b", .str "e"], .tuple [.str "c", .str "d"]], .tuple [.tuple [.str "a"], .tuple [.str "b"], .tuple [.str "c"]], .tuple [], .tuple [.tuple [.str "a", .str "b", .str "d"], .tuple [.str "c"]], .tuple [.tuple [.str "a", .str "b", .str "d"], .tuple [.str "c"]], .tuple [.tuple [.str "a", .str "b"]]]
def hd7 : PyData := .list [.tuple [.tuple [.str "a", .str "b"], .tuple [.str "a", .str "d"], .tuple [.str "b", .str "d"]], .tuple [], .tuple [], .tuple [.tuple [.str "a", .str "c"], .tuple [.str "b", .str "d"]], .tuple [.tuple [.str "a", .str "d"], .tuple [.str "b", .str "c"]], .tuple [.tuple [.str "a", .str "c"], .tuple [.str "a", .str "d"], .tuple [.str "b", .str "e"], .tuple [.str "c", .str "d"]], .tuple [.tuple [.str "a"], .tuple [.str "b"], .tuple [.str "c"]], .tuple [], .tuple [.tuple [.str "a", .str "b", .str "d"], .tuple [.str "c"]], .tuple [.tuple [.str "a", .str "b", .str "d"], .tuple [.str "c"]], .tuple [.tuple [.str "a", .str "b"]]]
def hd8 : PyData := .list [.tuple [.tuple [.str "a", .str "b"], .tuple [.str "a", .str "d"], .tuple [.str "b", .str "d"]], .tuple [], .tuple [], .tuple [.tuple [.str "a", .str "c"], .tuple [.str "b", .str "d"]], .tuple [.tuple [.str "a", .str "d"], .tuple [.str "b", .str "c"]], .tuple [.tuple [.str "a", .str "c"], .tuple [.str "a", .str "d"], .tuple [.str "b", .str "e"], .tuple [.str "c", .str "d"]], .tuple [.tuple [.str "a"], .tuple [.str "b"], .tuple [.str "c"]], .tuple [], .tuple [.tuple [.str "a", .str "b", .str "d"], .tuple [.str "c"]], .tuple [.tuple [.str "a", .str "b", .str "d"], .tuple [.str "c"]], .tuple [.tuple [.str "a", .str "b"]], .tuple [.tuple [.str "a", .str "c"], .tuple [.str "b", .str "d"]]]
def hd9 : PyData := .list [.tuple [.tuple [.str "a", .str "b"], .tuple [.str "a", .str "d"], .tuple [.str "b", .str "d"]], .tuple [], .tuple [], .tuple [.tuple [.str "a", .str "c"], .tuple [.str "b", .str "d"]], .tuple [.tuple [.str "a", .str "d"], .tuple [.str "b", .str "c"]], .tuple [.tuple [.str "a", .str "c"], .tuple [.str "a", .str "d"], .tuple [.str "b", .str "e"], .tuple [.str "c", .str "d"]], .tuple [.tuple [.str "a"], .tuple [.str "b"], .tuple [.str "c"]], .tuple [], .tuple [.tuple [.str "a", .str "b", .str "d"], .tuple [.str "c"]], .tuple [.tuple [.str "a", .str "b", .str "d"], .tuple [.str "c"]], .tuple [.tuple [.str "a", .str "b"]], .tuple [.tuple [.str "a", .str "c"], .tuple [.str "b", .str "d"]]]
def hd10 : PyData := .tuple [.str "a", .str "b", .str "c", .str "d", .str "e", .str "f", .str "g", .str "h", .str "i", .str "j", .str "k", .str "l"]
def hd11 : PyData := .list [.tuple [.str "a", .str "b"], .tuple [.str "c", .str "d"], .tuple [.str "e", .str "f"], .tuple [.str "g", .str "h"], .tuple [.str "i", .str "j"], .tuple [.str "k", .str "l"]]
def hd12 : PyData := .list [.tuple [.tuple [.str "a", .str "b"], .tuple [.str "a", .str "d"], .tuple [.str "b", .str "d"]], .tuple [], .tuple [], .tuple [.tuple [.str "a", .str "c"], .tuple [.str "b", .str "d"]], .tuple [.tuple [.str "a", .str "d"], .tuple [.str "b", .str "c"]], .tuple [.tuple [.str "a", .str "c"], .tuple [.str "a", .str "d"], .tuple [.str "b", .str "e"], .tuple [.str "c", .str "d"]], .tuple [.tuple [.str "a"], .tuple [.str "b"], .tuple [.str "c"]], .tuple [], .tuple [.tuple [.str "a", .str "b", .str "d"], .tuple [.str "c"]], .tuple [.tuple [.str "a", .str "b", .str "d"], .tuple [.str "c"]], .tuple [.tuple [.str "a", .str "b"]], .tuple [.tuple [.str "a", .str "c"], .tuple [.str "b", .str "d"]], .tuple [.tuple [.str "a", .str "b"], .tuple [.str "c", .str "d"], .tuple [.str "e", .str "f"], .tuple [.str "g", .str "h"], .tuple [.str "i", .str "j"], .tuple [.str "k", .str "l"]]]
def hd13 : PyData := .list [.tuple [.tuple [.str "a", .str "b"], .tuple [.str "a", .str "d"], .tuple [.str "b", .str "d"]], .tuple [], .tuple [], .tuple [.tuple [.str "a", .str "c"], .tuple [.str "b", .str "d"]], .tuple [.tuple [.str "a", .str "d"], .tuple [.str "b", .str "c"]], .tuple [.tuple [.str "a", .str "c"], .tuple [.str "a", .str "d"], .tuple [.str "b", .str "e"], .tuple [.str "c", .str "d"]], .tuple [.tuple [.str "a"], .tuple [.str "b"], .tuple [.str "c"]], .tuple [], .tuple [.tuple [.str "a", .str "b", .str "d"], .tuple [.str "c"]], .tuple [.tuple [.str "a", .str "b", .str "d"], .tuple [.str "c"]], .tuple [.tuple [.str "a", .str "b"]], .tuple [.tuple [.str "a", .str "c"], .tuple [.str "b", .str "d"]], .tuple [.tuple [.str "a", .str "b"], .tuple [.str "c", .str "d"], .tuple [.str "e", .str "f"], .tuple [.str "g", .str "h"], .tuple [.str "i", .str "j"], .tuple [.str "k", .str "l"]], .tuple [.tuple [.str "a", .str "b", .str "c", .str "d", .str "e", .str "f", .str "g", .str "h"], .tuple [.str "i", .str "j"], .tuple [.str "k", .str "l"]]]
def hd14 : PyData := .list [.tuple [.tuple [.str "a", .str "b"], .tuple [.str "a", .str "d"], .tuple [.str "b", .str "d"]], .tuple [], .tuple [], .tuple [.tuple [.str "a", .str "c"], .tuple [.str "b", .str "d"]], .tuple [.tuple [.str "a", .str "d"], .tuple [.str "b", .str "c"]], .tuple [.tuple [.str "a", .str "c"], .tuple [.str "a", .str "d"], .tuple [.str "b", .str "e"], .tuple [.str "c", .str "d"]], .tuple [.tuple [.str "a"], .tuple [.str "b"], .tuple [.str "c"]], .tuple [], .tuple [.tuple [.str "a", .str "b", .str "d"], .tuple [.str "c"]], .tuple [.tuple [.str "a", .str "b", .str "d"], .tuple [.str "c"]], .tuple [.tuple [.str "a", .str "b"]], .tuple [.tuple [.str "a", .str "c"], .tuple [.str "b", .str "d"]], .tuple [.tuple [.str "a", .str "b"], .tuple [.str "c", .str "d"], .tuple [.str "e", .str "f"], .tuple [.str "g", .str "h"], .tuple [.str "i", .str "j"], .tuple [.str "k", .str "l"]], .tuple [.tuple [.str "a", .str "b", .str "c", .str "d", .str "e", .str "f", .str "g", .str "h"], .tuple [.str "i", .str "j"], .tuple [.str "k", .str "l"]]]
def hd15 : PyData := .list [.tuple [.tuple [.str "a", .str "b"], .tuple [.str "a", .str "d"], .tuple [.str "b", .str "d"]], .tuple [], .tuple [], .tuple [.tuple [.str "a", .str "c"], .tuple [.str "b", .str "d"]], .tuple [.tuple [.str "a", .str "d"], .tuple [.str "b", .str "c"]], .tuple [.tuple [.str "a", .str "c"], .tuple [.str "a", .str "d"], .tuple [.str "b", .str "e"], .tuple [.str "c", .str "d"]], .tuple [.tuple [.str "a"], .tuple [.str "b"], .tuple [.str "c"]], .tuple [], .tuple [.tuple [.str "a", .str "b", .str "d"], .tuple [.str "c"]], .tuple [.tuple [.str "a", .str "b", .str "d"], .tuple [.str "c"]], .tuple [.tuple [.str "a", .str "b"]], .tuple [.tuple [.str "a", .str "c"], .tuple [.str "b", .str "d"]], .tuple [.tuple [.str "a", .str "b"], .tuple [.str "c", .str "d"], .tuple [.str "e", .str "f"], .tuple [.str "g", .str "h"], .tuple [.str "i", .str "j"], .tuple [.str "k", .str "l"]], .tuple [.tuple [.str "a", .str "b", .str "c", .str "d", .str "e", .str "f", .str "g", .str "h"], .tuple [.str "i", .str "j"], .tuple [.str "k", .str "l"]], .int 66, .tuple [.tuple [.str "a", .str "b", .str "c", .str "d", .str "e", .str "f", .str "g", .str "h", .str "i", .str "j", .str "k", .str "l"]]]
def hd16 : PyData := .list [.tuple [.tuple [.str "a", .str "b"], .tuple [.str "a", .str "d"], .tuple [.str "b", .str "d"]], .tuple [], .tuple [], .tuple [.tuple [.str "a", .str "c"], .tuple [.str "b", .str "d"]], .tuple [.tuple [.str "a", .str "d"], .tuple [.str "b", .str "c"]], .tuple [.tuple [.str "a", .str "c"], .tuple [.str "a", .str "d"], .tuple [.str "b", .str "e"], .tuple [.str "c", .str "d"]], .tuple [.tuple [.str "a"], .tuple [.str "b"], .tuple [.str "c"]], .tuple [], .tuple [.tuple [.str "a", .str "b", .str "d"], .tuple [.str "c"]], .tuple [.tuple [.str "a", .str "b", .str "d"], .tuple [.str "c"]], .tuple [.tuple [.str "a", .str "b"]], .tuple [.tuple [.str "a", .str "c"], .tuple [.str "b", .str "d"]], .tuple [.tuple [.str "a", .str "b"], .tuple [.str "c", .str "d"], .tuple [.str "e", .str "f"], .tuple [.str "g", .str "h"], .tuple [.str "i", .str "j"], .tuple [.str "k", .str "l"]], .tuple [.tuple [.str "a", .str "b", .str "c", .str "d", .str "e", .str "f", .str "g", .str "h"], .tuple [.str "i", .str "j"], .tuple [.str "k", .str "l"]], .int 66, .tuple [.tuple [.str "a", .str "b", .str "c", .str "d", .str "e", .str "f", .str "g", .str "h", .str "i", .str "j", .str "k", .str "l"]]]
theorem fitJ0 : FitJ [["a", "b", "d"], ["c"]] ["a", "b", "c", "d"] [("a", "b"), ("a", "d"), ("b", "d")] := fitJ_of (by decide +kernel)
theorem fitJ1 : FitJ [["a"], ["b"]] ["a", "b"] [] := fitJ_of (by decide +kernel)
theorem fitJ2 : FitJ [] [] [] := fitJ_of (by decide +kernel)
theorem fitJ3 : FitJ [["a", "c"], ["b", "d"]] ["a", "b", "c", "d"] [("a", "c"), ("b", "d")] := fitJ_of (by decide +kernel)
theorem fitJ4 : FitJ [["a", "d"], ["b", "c"]] ["a", "b", "c", "d"] [("a", "d"), ("b", "c")] := fitJ_of (by decide +kernel)
theorem fitJ5 : FitJ [["a", "c", "d"], ["b", "e"]] ["a", "b", "c", "d", "e"] [("a", "c"), ("a", "d"), ("b", "e"), ("c", "d")] := fitJ_of (by decide +kernel)
theorem fitF6 : FitF ["a", "b", "c"] [] [["a"], ["b"], ["c"]] := fit_of (t := [["a"], ["b"], ["c"]]) (by decide +kernel) (by decide +kernel)
theorem fitF7 : FitF [] [] [] := fit_of (t := []) (by decide +kernel) (by decide +kernel)
theorem fitF8 : FitF ["a", "b", "c", "d"] [("a", "b"), ("b", "d")] [["a", "b", "d"], ["c"]] := fit_of (t := [["a", "b", "d"], ["a", "b", "d"], ["c"], ["a", "b", "d"]]) (by decide +kernel) (by decide +kernel)
theorem fitF9 : FitF ["a", "b", "c", "d"] [("b", "d"), ("a", "b"), ("b", "d")] [["a", "b", "d"], ["c"]] := fit_of (t := [["a", "b", "d"], ["a", "b", "d"], ["c"], ["a", "b", "d"]]) (by decide +kernel) (by decide +kernel)
theorem fitF10 : FitF ["a", "b"] [("a", "b")] [["a", "b"]] := fit_of (t := [["a", "b"], ["a", "b"]]) (by decide +kernel) (by decide +kernel)
theorem fitF11 : FitF ["a", "b", "c", "d"] [("a", "c"), ("b", "d")] [["a", "c"], ["b", "d"]] := fit_of (t := [["a", "c"], ["b", "d"], ["a", "c"], ["b", "d"]]) (by decide +kernel) (by decide +kernel)
theorem fitF12 : FitF ["a", "b", "c", "d", "e", "f", "g", "h", "i", "j", "k", "l"] [("a", "b"), ("c", "d"), ("e", "f"), ("g", "h"), ("i", "j"), ("k", "l")] [["a", "b"], ["c", "d"], ["e", "f"], ["g", "h"], ["i", "j"], ["k", "l"]] := fit_of (t := [["a", "b"], ["a", "b"], ["c", "d"], ["c", "d"], ["e", "f"], ["e", "f"], ["g", "h"], ["g", "h"], ["i", "j"], ["i", "j"], ["k", "l"], ["k", "l"]]) (by decide +kernel) (by decide +kernel)
theorem fitF13 : FitF ["a", "b", "c", "d", "e", "f", "g", "h", "i", "j", "k", "l"] [("a", "b"), ("c", "d"), ("e", "f"), ("g", "h"), ("i", "j"), ("k", "l"), ("b", "c"), ("d", "e"), ("f", "g")] [["a", "b", "c", "d", "e", "f", "g", "h"], ["i", "j"], ["k", "l"]] := fit_of (t := [["a", "b", "c", "d", "e", "f", "g", "h"], ["a", "b", "c", "d", "e", "f", "g", "h"], ["a", "b", "c", "d", "e", "f", "g", "h"], ["a", "b", "c", "d", "e", "f", "g", "h"], ["a", "b", "c", "d", "e", "f", "g", "h"], ["a", "b", "c", "d", "e", "f", "g", "h"], ["a", "b", "c", "d", "e", "f", "g", "h"], ["a", "b", "c", "d", "e", "f", "g", "h"], ["i", "j"], ["i", "j"], ["k", "l"], ["k", "l"]]) (by decide +kernel) (by decide +kernel)
theorem fitJ14 : FitJ [["a", "b", "c", "d", "e", "f", "g", "h", "i", "j", "k", "l"]] ["a", "b", "c", "d", "e", "f", "g", "h", "i", "j", "k", "l"] (twosL ["a", "b", "c", "d", "e", "f", "g", "h", "i", "j", "k", "l"]) := fitJ_of (by decide +kernel)
theorem fitF15 : FitF ["a", "b", "c", "d", "e", "f", "g", "h", "i", "j", "k", "l"] [("k", "l"), ("j", "k"), ("i", "j"), ("h", "i"), ("g", "h"), ("f", "g"), ("e", "f"), ("d", "e"), ("c", "d"), ("b", "c"), ("a", "b")] [["a", "b", "c", "d", "e", "f", "g", "h", "i", "j", "k", "l"]] := fit_of (t := [["a", "b", "c", "d", "e", "f", "g", "h", "i", "j", "k", "l"], ["a", "b", "c", "d", "e", "f", "g", "h", "i", "j", "k", "l"], ["a", "b", "c", "d", "e", "f", "g", "h", "i", "j", "k", "l"], ["a", "b", "c", "d", "e", "f", "g", "h", "i", "j", "k", "l"], ["a", "b", "c", "d", "e", "f", "g", "h", "i", "j", "k", "l"], ["a", "b", "c", "d", "e", "f", "g", "h", "i", "j", "k", "l"], ["a", "b", "c", "d", "e", "f", "g", "h", "i", "j", "k", "l"], ["a", "b", "c", "d", "e", "f", "g", "h", "i", "j", "k", "l"], ["a", "b", "c", "d", "e", "f", "g", "h", "i", "j", "k", "l"], ["a", "b", "c", "d", "e", "f", "g", "h", "i", "j", "k", "l"], ["a", "b", "c", "d", "e", "f", "g", "h", "i", "j", "k", "l"], ["a", "b", "c", "d", "e", "f", "g", "h", "i", "j", "k", "l"]]) (by decide +kernel) (by decide +kernel)
def spHand : Sp := fun vs H Q _ => vs = [] ∧ ∀ H', Same H H' → Q (.bl true) H'
abbrev nHand : List Str := ["_law_got", "_law_due", "_law_wide", "_law_ring_so"]
theorem gv_ret {sp : Sp} {ta : TA} {D : Ends} {σ : L2.St} {H : Hp} {es : List PyData} (h : GvA ta σ H es) (k : ∀ vs H', Same H H' → DdAll H' vs es → sp (vs ++ []) H' D.rt E0) : tRet (tCall sp [] E0 ta) D σ H := h H (.refl H) _ k
section
variable {P : Program} {w : World} {K : PySem.W.Frag} {mg : Str → Option Value} {base : Heap} {f : Addr} {fd : FuncData}
theorem scHand : FnScope nHand [] (defScope (topS 25)) := ⟨rfl, rfl, rfl, by decide +kernel, rfl, by decide +kernel, by decide +kernel⟩
theorem ok_hand (B : Bts mg) (gF : Has P w K mg base 3 "lots_from" ["islands", "pairs"] spFrom) (gFw : HasW P w K mg base 3 "lots_from" ["islands", "pairs"] ["pairs", "islands"] gVFrom spFrom)
    (gS : Has P w K mg base 4 "_law_same" ["_law_got", "_law_due"] (spSame 4)) (gO : Has P w K mg base 5 "pairs_joined" ["parting"] (spJoined 4)) (gOw : HasW P w K mg base 5 "pairs_joined" ["parting"] ["parting"] gVOne (spJoined 4))
    (F : Fun K "_law_by_hand_right" "_law_by_hand_right" (topS 25) f fd) : FnOk P w K mg base CX0 6 f fd [] spHand := by
  refine F.ok scHand (fun vs H Q E h => by rw [h.1]; rfl) (fun cdv A outer s H vs Q E hr h => ?_)
  obtain ⟨rfl, q⟩ := h
  refine ⟨_, (pss_cons (ps_set (i := 0) scHand.nd rfl (Or.inl rfl) (pe_lst (pa_cons (pe_has gO hr (pa_cons (pe_tup (pa_cons (pe_tup (pa_cons pe_str (pa_cons pe_str (pa_cons pe_str pa_nil)))) (pa_cons (pe_tup (pa_cons pe_str pa_nil)) pa_nil))) pa_nil)) (pa_cons (pe_has gO hr (pa_cons (pe_tup (pa_cons (pe_tup (pa_cons pe_str pa_nil)) (pa_cons (pe_tup (pa_cons pe_str pa_nil)) pa_nil))) pa_nil)) (pa_cons (pe_has gO hr (pa_cons (pe_tup pa_nil) pa_nil)) pa_nil)))))
     (pss_cons (ps_set (i := 1) scHand.nd rfl (Or.inl rfl) (pe_lst (pa_cons (pe_tup (pa_cons (pe_tup (pa_cons pe_str (pa_cons pe_str pa_nil))) (pa_cons (pe_tup (pa_cons pe_str (pa_cons pe_str pa_nil))) (pa_cons (pe_tup (pa_cons pe_str (pa_cons pe_str pa_nil))) pa_nil)))) (pa_cons (pe_tup pa_nil) (pa_cons (pe_tup pa_nil) pa_nil)))))
     (pss_cons (ps_set (i := 0) scHand.nd rfl (Or.inl rfl) (pe_op op_cat (pv 0) (pe_lst (pa_cons (pe_hasW gOw hr (pk_cons (pe_lst (pa_cons (pe_lst (pa_cons pe_str (pa_cons pe_str pa_nil))) (pa_cons (pe_lst (pa_cons pe_str (pa_cons pe_str pa_nil))) pa_nil))) pk_nil)) (pa_cons (pe_has gO hr (pa_cons (pe_tup (pa_cons (pe_tup (pa_cons pe_str (pa_cons pe_str pa_nil))) (pa_cons (pe_tup (pa_cons pe_str (pa_cons pe_str pa_nil))) pa_nil))) pa_nil)) pa_nil)))))
     (pss_cons (ps_set (i := 1) scHand.nd rfl (Or.inl rfl) (pe_op op_cat (pv 1) (pe_lst (pa_cons (pe_tup (pa_cons (pe_tup (pa_cons pe_str (pa_cons pe_str pa_nil))) (pa_cons (pe_tup (pa_cons pe_str (pa_cons pe_str pa_nil))) pa_nil))) (pa_cons (pe_tup (pa_cons (pe_tup (pa_cons pe_str (pa_cons pe_str pa_nil))) (pa_cons (pe_tup (pa_cons pe_str (pa_cons pe_str pa_nil))) pa_nil))) pa_nil)))))
     (pss_cons (ps_expr (pe_bm PySem.F.plainAttrs_list PySem.F.slot_list_append PySem.F.type_list_append mt_append (pv 0) (pa_cons (pe_has gO hr (pa_cons (pe_tup (pa_cons (pe_tup (pa_cons pe_str (pa_cons pe_str (pa_cons pe_str pa_nil)))) (pa_cons (pe_tup (pa_cons pe_str (pa_cons pe_str pa_nil))) pa_nil))) pa_nil)) pa_nil)))
     (pss_cons (ps_expr (pe_bm PySem.F.plainAttrs_list PySem.F.slot_list_append PySem.F.type_list_append mt_append (pv 1) (pa_cons (pe_tup (pa_cons (pe_tup (pa_cons pe_str (pa_cons pe_str pa_nil))) (pa_cons (pe_tup (pa_cons pe_str (pa_cons pe_str pa_nil))) (pa_cons (pe_tup (pa_cons pe_str (pa_cons pe_str pa_nil))) (pa_cons (pe_tup (pa_cons pe_str (pa_cons pe_str pa_nil))) pa_nil))))) pa_nil)))
     (pss_cons (ps_set (i := 0) scHand.nd rfl (Or.inl rfl) (pe_op op_cat (pv 0) (pe_lst (pa_cons (pe_has gF (hr.mono (by decide)) (pa_cons (pe_tup (pa_cons pe_str (pa_cons pe_str (pa_cons pe_str pa_nil)))) (pa_cons (pe_tup pa_nil) pa_nil))) (pa_cons (pe_has gF (hr.mono (by decide)) (pa_cons (pe_tup pa_nil) (pa_cons (pe_tup pa_nil) pa_nil))) pa_nil)))))
     (pss_cons (ps_set (i := 0) scHand.nd rfl (Or.inl rfl) (pe_op op_cat (pv 0) (pe_lst (pa_cons (pe_has gF (hr.mono (by decide)) (pa_cons (pe_tup (pa_cons pe_str (pa_cons pe_str (pa_cons pe_str (pa_cons pe_str pa_nil))))) (pa_cons (pe_tup (pa_cons (pe_tup (pa_cons pe_str (pa_cons pe_str pa_nil))) (pa_cons (pe_tup (pa_cons pe_str (pa_cons pe_str pa_nil))) pa_nil))) pa_nil))) pa_nil))))
     (pss_cons (ps_set (i := 1) scHand.nd rfl (Or.inl rfl) (pe_op op_cat (pv 1) (pe_lst (pa_cons (pe_tup (pa_cons (pe_tup (pa_cons pe_str pa_nil)) (pa_cons (pe_tup (pa_cons pe_str pa_nil)) (pa_cons (pe_tup (pa_cons pe_str pa_nil)) pa_nil)))) (pa_cons (pe_tup pa_nil) (pa_cons (pe_tup (pa_cons (pe_tup (pa_cons pe_str (pa_cons pe_str (pa_cons pe_str pa_nil)))) (pa_cons (pe_tup (pa_cons pe_str pa_nil)) pa_nil))) pa_nil))))))
     (pss_cons (ps_set (i := 0) scHand.nd rfl (Or.inl rfl) (pe_op op_cat (pv 0) (pe_lst (pa_cons (pe_has gF (hr.mono (by decide)) (pa_cons (pe_tup (pa_cons pe_str (pa_cons pe_str (pa_cons pe_str (pa_cons pe_str pa_nil))))) (pa_cons (pe_tup (pa_cons (pe_tup (pa_cons pe_str (pa_cons pe_str pa_nil))) (pa_cons (pe_tup (pa_cons pe_str (pa_cons pe_str pa_nil))) (pa_cons (pe_tup (pa_cons pe_str (pa_cons pe_str pa_nil))) pa_nil)))) pa_nil))) pa_nil))))
     (pss_cons (ps_set (i := 0) scHand.nd rfl (Or.inl rfl) (pe_op op_cat (pv 0) (pe_lst (pa_cons (pe_has gF (hr.mono (by decide)) (pa_cons (pe_tup (pa_cons pe_str (pa_cons pe_str pa_nil))) (pa_cons (pe_tup (pa_cons (pe_tup (pa_cons pe_str (pa_cons pe_str pa_nil))) pa_nil)) pa_nil))) pa_nil))))
     (pss_cons (ps_set (i := 1) scHand.nd rfl (Or.inl rfl) (pe_op op_cat (pv 1) (pe_lst (pa_cons (pe_tup (pa_cons (pe_tup (pa_cons pe_str (pa_cons pe_str (pa_cons pe_str pa_nil)))) (pa_cons (pe_tup (pa_cons pe_str pa_nil)) pa_nil))) (pa_cons (pe_tup (pa_cons (pe_tup (pa_cons pe_str (pa_cons pe_str pa_nil))) pa_nil)) pa_nil)))))
     (pss_cons (ps_set (i := 0) scHand.nd rfl (Or.inl rfl) (pe_op op_cat (pv 0) (pe_lst (pa_cons (pe_hasW gFw (hr.mono (by decide)) (pk_cons (pe_lst (pa_cons (pe_lst (pa_cons pe_str (pa_cons pe_str pa_nil))) (pa_cons (pe_lst (pa_cons pe_str (pa_cons pe_str pa_nil))) pa_nil))) (pk_cons (pe_lst (pa_cons pe_str (pa_cons pe_str (pa_cons pe_str (pa_cons pe_str pa_nil))))) pk_nil))) pa_nil))))
     (pss_cons (ps_set (i := 1) scHand.nd rfl (Or.inl rfl) (pe_op op_cat (pv 1) (pe_lst (pa_cons (pe_tup (pa_cons (pe_tup (pa_cons pe_str (pa_cons pe_str pa_nil))) (pa_cons (pe_tup (pa_cons pe_str (pa_cons pe_str pa_nil))) pa_nil))) pa_nil))))
     (pss_cons (ps_set (i := 2) scHand.nd rfl (Or.inl rfl) (pe_callTy (cr_tupS rfl) (by rfl) B.tuple (by decide +kernel) (pa_cons pe_str pa_nil)))
     (pss_cons (ps_set (i := 3) scHand.nd rfl (Or.inl rfl) (pe_listZip rfl (pa_cons (pe_step (pv 2) po_none) (pa_cons (pe_step (pv 2) (po_some pe_int)) pa_nil)) (by rfl) B.list (by decide +kernel) (by rfl) B.zip))
     (pss_cons (ps_set (i := 0) scHand.nd rfl (Or.inl rfl) (pe_op op_cat (pv 0) (pe_lst (pa_cons (pe_has gF (hr.mono (by decide)) (pa_cons (pv 2) (pa_cons (pv 3) pa_nil))) pa_nil))))
     (pss_cons (ps_set (i := 0) scHand.nd rfl (Or.inl rfl) (pe_op op_cat (pv 0) (pe_lst (pa_cons (pe_has gF (hr.mono (by decide)) (pa_cons (pv 2) (pa_cons (pe_op op_cat (pv 3) (pe_lst (pa_cons (pe_tup (pa_cons pe_str (pa_cons pe_str pa_nil))) (pa_cons (pe_tup (pa_cons pe_str (pa_cons pe_str pa_nil))) (pa_cons (pe_tup (pa_cons pe_str (pa_cons pe_str pa_nil))) pa_nil))))) pa_nil))) pa_nil))))
     (pss_cons (ps_set (i := 1) scHand.nd rfl (Or.inl rfl) (pe_op op_cat (pv 1) (pe_lst (pa_cons (pe_callTy call_tuple_of (by rfl) B.tuple (by decide +kernel) (pa_cons (pv 3) pa_nil)) (pa_cons (pe_tup (pa_cons (pe_callTy (cr_tupS rfl) (by rfl) B.tuple (by decide +kernel) (pa_cons pe_str pa_nil)) (pa_cons (pe_tup (pa_cons pe_str (pa_cons pe_str pa_nil))) (pa_cons (pe_tup (pa_cons pe_str (pa_cons pe_str pa_nil))) pa_nil)))) pa_nil)))))
     (pss_cons (ps_set (i := 0) scHand.nd rfl (Or.inl rfl) (pe_op op_cat (pv 0) (pe_lst (pa_cons (pe_callB call_len_seq (by rfl) B.len PySem.boot_len (pa_cons (pe_has gO hr (pa_cons (pe_tup (pa_cons (pv 2) pa_nil)) pa_nil)) pa_nil)) (pa_cons (pe_has gF (hr.mono (by decide)) (pa_cons (pv 2) (pa_cons (pe_revL (pe_listZip rfl (pa_cons (pv 2) (pa_cons (pe_slice sl_tupC (pv 2) (po_some pe_int) po_none) pa_nil)) (by rfl) B.list (by decide +kernel) (by rfl) B.zip)) pa_nil))) pa_nil)))))
     (pss_one (ps_ret (pe_has gS (hr.mono (by decide)) (pa_cons (pv 0) (pa_cons (pe_op op_cat (pv 1) (pe_lst (pa_cons pe_int (pa_cons (pe_tup (pa_cons (pv 2) pa_nil)) pa_nil)))) pa_nil))))))))))))))))))))))))), ?_⟩
  have hs : Hs H (start nHand []) [none, none, none, none] := ⟨rfl, fun i d e => by match i, e with | 0, e => cases e | 1, e => cases e | 2, e => cases e | 3, e => cases e | i + 4, e => cases e⟩
  have sm : Same H H := .refl H
  refine gv_step (d := .list [.tuple [.tuple [.str "a", .str "b"], .tuple [.str "a", .str "d"], .tuple [.str "b", .str "d"]], .tuple [], .tuple []]) hs (gv_lst (gva_cons (gv_joined (d := .tuple [.tuple [.str "a", .str "b", .str "d"], .tuple [.str "c"]]) (gv_tup (gva_cons (gv_tup (gva_cons gv_str (gva_cons gv_str (gva_cons gv_str gva_nil))) (Nat.le_of_ble_eq_true rfl)) (gva_cons (gv_tup (gva_cons gv_str gva_nil) (Nat.le_of_ble_eq_true rfl)) gva_nil)) (Nat.le_of_ble_eq_true rfl)) fitJ0 (frz_lots [["a", "b", "d"], ["c"]]) (by decide +kernel)) (gva_cons (gv_joined (d := .tuple [.tuple [.str "a"], .tuple [.str "b"]]) (gv_tup (gva_cons (gv_tup (gva_cons gv_str gva_nil) (Nat.le_of_ble_eq_true rfl)) (gva_cons (gv_tup (gva_cons gv_str gva_nil) (Nat.le_of_ble_eq_true rfl)) gva_nil)) (Nat.le_of_ble_eq_true rfl)) fitJ1 (frz_lots [["a"], ["b"]]) (by decide +kernel)) (gva_cons (gv_joined (d := .tuple []) (gv_tup gva_nil (Nat.le_of_ble_eq_true rfl)) fitJ2 (frz_lots []) (by decide +kernel)) gva_nil))) (Nat.le_of_ble_eq_true rfl)) fun v0 G0 s0 hs2 => ?_
  replace hs : Hs G0 _ [some (.list [.tuple [.tuple [.str "a", .str "b"], .tuple [.str "a", .str "d"], .tuple [.str "b", .str "d"]], .tuple [], .tuple []]), none, none, none] := hs2
  clear hs2
  have sm := sm.trans s0
  generalize List.set _ _ _ = σx0 at hs ⊢
  refine gv_step (d := .list [.tuple [.tuple [.str "a", .str "b"], .tuple [.str "a", .str "d"], .tuple [.str "b", .str "d"]], .tuple [], .tuple []]) hs (gv_lst (gva_cons (gv_tup (gva_cons (gv_tup (gva_cons gv_str (gva_cons gv_str gva_nil)) (Nat.le_of_ble_eq_true rfl)) (gva_cons (gv_tup (gva_cons gv_str (gva_cons gv_str gva_nil)) (Nat.le_of_ble_eq_true rfl)) (gva_cons (gv_tup (gva_cons gv_str (gva_cons gv_str gva_nil)) (Nat.le_of_ble_eq_true rfl)) gva_nil))) (Nat.le_of_ble_eq_true rfl)) (gva_cons (gv_tup gva_nil (Nat.le_of_ble_eq_true rfl)) (gva_cons (gv_tup gva_nil (Nat.le_of_ble_eq_true rfl)) gva_nil))) (Nat.le_of_ble_eq_true rfl)) fun v1 G1 s1 hs2 => ?_
  replace hs : Hs G1 _ [some (.list [.tuple [.tuple [.str "a", .str "b"], .tuple [.str "a", .str "d"], .tuple [.str "b", .str "d"]], .tuple [], .tuple []]), some (.list [.tuple [.tuple [.str "a", .str "b"], .tuple [.str "a", .str "d"], .tuple [.str "b", .str "d"]], .tuple [], .tuple []]), none, none] := hs2
  clear hs2
  have sm := sm.trans s1
  generalize List.set _ _ _ = σx1 at hs ⊢
  refine two_start sm hs (gv_lst (gva_cons (gv_joinedK (d := .list [.list [.str "a", .str "c"], .list [.str "b", .str "d"]]) (gv_lst (gva_cons (gv_lst (gva_cons gv_str (gva_cons gv_str gva_nil)) (Nat.le_of_ble_eq_true rfl)) (gva_cons (gv_lst (gva_cons gv_str (gva_cons gv_str gva_nil)) (Nat.le_of_ble_eq_true rfl)) gva_nil)) (Nat.le_of_ble_eq_true rfl)) fitJ3 (frz_lst [["a", "c"], ["b", "d"]]) (by decide +kernel)) (gva_cons (gv_joined (d := .tuple [.tuple [.str "a", .str "d"], .tuple [.str "b", .str "c"]]) (gv_tup (gva_cons (gv_tup (gva_cons gv_str (gva_cons gv_str gva_nil)) (Nat.le_of_ble_eq_true rfl)) (gva_cons (gv_tup (gva_cons gv_str (gva_cons gv_str gva_nil)) (Nat.le_of_ble_eq_true rfl)) gva_nil)) (Nat.le_of_ble_eq_true rfl)) fitJ4 (frz_lots [["a", "d"], ["b", "c"]]) (by decide +kernel)) gva_nil)) (Nat.le_of_ble_eq_true rfl)) (fun σ H => (gv_lst (gva_cons (gv_tup (gva_cons (gv_tup (gva_cons gv_str (gva_cons gv_str gva_nil)) (Nat.le_of_ble_eq_true rfl)) (gva_cons (gv_tup (gva_cons gv_str (gva_cons gv_str gva_nil)) (Nat.le_of_ble_eq_true rfl)) gva_nil)) (Nat.le_of_ble_eq_true rfl)) (gva_cons (gv_tup (gva_cons (gv_tup (gva_cons gv_str (gva_cons gv_str gva_nil)) (Nat.le_of_ble_eq_true rfl)) (gva_cons (gv_tup (gva_cons gv_str (gva_cons gv_str gva_nil)) (Nat.le_of_ble_eq_true rfl)) gva_nil)) (Nat.le_of_ble_eq_true rfl)) gva_nil)) (Nat.le_of_ble_eq_true rfl))) (Nat.le_of_ble_eq_true rfl) (Nat.le_of_ble_eq_true rfl) fun σ2 H3 T3 => ?_
  refine two_left T3 (by decide +kernel) (by decide +kernel) (by decide +kernel) (by decide) (gv_joined (d := .tuple [.tuple [.str "a", .str "c", .str "d"], .tuple [.str "b", .str "e"]]) (gv_tup (gva_cons (gv_tup (gva_cons gv_str (gva_cons gv_str (gva_cons gv_str gva_nil))) (Nat.le_of_ble_eq_true rfl)) (gva_cons (gv_tup (gva_cons gv_str (gva_cons gv_str gva_nil)) (Nat.le_of_ble_eq_true rfl)) gva_nil)) (Nat.le_of_ble_eq_true rfl)) fitJ5 (frz_lots [["a", "c", "d"], ["b", "e"]]) (by decide +kernel)) fun H4 T4 => ?_
  refine two_right T4 (by decide +kernel) (by decide +kernel) (by decide +kernel) (by decide) (gv_tup (gva_cons (gv_tup (gva_cons gv_str (gva_cons gv_str gva_nil)) (Nat.le_of_ble_eq_true rfl)) (gva_cons (gv_tup (gva_cons gv_str (gva_cons gv_str gva_nil)) (Nat.le_of_ble_eq_true rfl)) (gva_cons (gv_tup (gva_cons gv_str (gva_cons gv_str gva_nil)) (Nat.le_of_ble_eq_true rfl)) (gva_cons (gv_tup (gva_cons gv_str (gva_cons gv_str gva_nil)) (Nat.le_of_ble_eq_true rfl)) gva_nil)))) (Nat.le_of_ble_eq_true rfl)) fun H5 T5 => ?_
  have hs : Hs H5 σ2 [some (hd0), some (hd1), none, none] := T5.hs
  have sm : Same H H5 := let ⟨_, _, _, _, _, _, _, _, _, _, _, _, _, s, _⟩ := T5.ex; s
  clear T3 T4 T5
  refine gv_step (d := hd2) hs (gv_cat (es := [.tuple [.tuple [.str "a", .str "b"], .tuple [.str "a", .str "d"], .tuple [.str "b", .str "d"]], .tuple [], .tuple [], .tuple [.tuple [.str "a", .str "c"], .tuple [.str "b", .str "d"]], .tuple [.tuple [.str "a", .str "d"], .tuple [.str "b", .str "c"]], .tuple [.tuple [.str "a", .str "c"], .tuple [.str "a", .str "d"], .tuple [.str "b", .str "e"], .tuple [.str "c", .str "d"]]]) (fs := [.tuple [.tuple [.str "a"], .tuple [.str "b"], .tuple [.str "c"]], .tuple []]) (gv_at hs rfl) (gv_lst (gva_cons (gv_from (dI := .tuple [.str "a", .str "b", .str "c"]) (dP := .tuple []) (gva_cons (gv_tup (gva_cons gv_str (gva_cons gv_str (gva_cons gv_str gva_nil))) (Nat.le_of_ble_eq_true rfl)) (gva_cons (gv_tup gva_nil (Nat.le_of_ble_eq_true rfl)) gva_nil)) fitF6 rfl rfl rfl rfl) (gva_cons (gv_from (dI := .tuple []) (dP := .tuple []) (gva_cons (gv_tup gva_nil (Nat.le_of_ble_eq_true rfl)) (gva_cons (gv_tup gva_nil (Nat.le_of_ble_eq_true rfl)) gva_nil)) fitF7 rfl rfl rfl rfl) gva_nil)) (Nat.le_of_ble_eq_true rfl)) (Nat.le_of_ble_eq_true rfl)) fun v6 G6 s6 hs2 => ?_
  replace hs : Hs G6 _ [some (hd2), some (hd1), none, none] := hs2
  clear hs2
  have sm := sm.trans s6
  generalize List.set _ _ _ = σx6 at hs ⊢
  refine gv_step (d := hd3) hs (gv_cat (es := [.tuple [.tuple [.str "a", .str "b"], .tuple [.str "a", .str "d"], .tuple [.str "b", .str "d"]], .tuple [], .tuple [], .tuple [.tuple [.str "a", .str "c"], .tuple [.str "b", .str "d"]], .tuple [.tuple [.str "a", .str "d"], .tuple [.str "b", .str "c"]], .tuple [.tuple [.str "a", .str "c"], .tuple [.str "a", .str "d"], .tuple [.str "b", .str "e"], .tuple [.str "c", .str "d"]], .tuple [.tuple [.str "a"], .tuple [.str "b"], .tuple [.str "c"]], .tuple []]) (fs := [.tuple [.tuple [.str "a", .str "b", .str "d"], .tuple [.str "c"]]]) (gv_at hs rfl) (gv_lst (gva_cons (gv_from (dI := .tuple [.str "a", .str "b", .str "c", .str "d"]) (dP := .tuple [.tuple [.str "a", .str "b"], .tuple [.str "b", .str "d"]]) (gva_cons (gv_tup (gva_cons gv_str (gva_cons gv_str (gva_cons gv_str (gva_cons gv_str gva_nil)))) (Nat.le_of_ble_eq_true rfl)) (gva_cons (gv_tup (gva_cons (gv_tup (gva_cons gv_str (gva_cons gv_str gva_nil)) (Nat.le_of_ble_eq_true rfl)) (gva_cons (gv_tup (gva_cons gv_str (gva_cons gv_str gva_nil)) (Nat.le_of_ble_eq_true rfl)) gva_nil)) (Nat.le_of_ble_eq_true rfl)) gva_nil)) fitF8 rfl rfl rfl rfl) gva_nil) (Nat.le_of_ble_eq_true rfl)) (Nat.le_of_ble_eq_true rfl)) fun v7 G7 s7 hs2 => ?_
  replace hs : Hs G7 _ [some (hd3), some (hd1), none, none] := hs2
  clear hs2
  have sm := sm.trans s7
  generalize List.set _ _ _ = σx7 at hs ⊢
  refine gv_step (d := hd4) hs (gv_cat (es := [.tuple [.tuple [.str "a", .str "b"], .tuple [.str "a", .str "d"], .tuple [.str "b", .str "d"]], .tuple [], .tuple [], .tuple [.tuple [.str "a", .str "c"], .tuple [.str "b", .str "d"]], .tuple [.tuple [.str "a", .str "d"], .tuple [.str "b", .str "c"]], .tuple [.tuple [.str "a", .str "c"], .tuple [.str "a", .str "d"], .tuple [.str "b", .str "e"], .tuple [.str "c", .str "d"]]]) (fs := [.tuple [.tuple [.str "a"], .tuple [.str "b"], .tuple [.str "c"]], .tuple [], .tuple [.tuple [.str "a", .str "b", .str "d"], .tuple [.str "c"]]]) (gv_at hs rfl) (gv_lst (gva_cons (gv_tup (gva_cons (gv_tup (gva_cons gv_str gva_nil) (Nat.le_of_ble_eq_true rfl)) (gva_cons (gv_tup (gva_cons gv_str gva_nil) (Nat.le_of_ble_eq_true rfl)) (gva_cons (gv_tup (gva_cons gv_str gva_nil) (Nat.le_of_ble_eq_true rfl)) gva_nil))) (Nat.le_of_ble_eq_true rfl)) (gva_cons (gv_tup gva_nil (Nat.le_of_ble_eq_true rfl)) (gva_cons (gv_tup (gva_cons (gv_tup (gva_cons gv_str (gva_cons gv_str (gva_cons gv_str gva_nil))) (Nat.le_of_ble_eq_true rfl)) (gva_cons (gv_tup (gva_cons gv_str gva_nil) (Nat.le_of_ble_eq_true rfl)) gva_nil)) (Nat.le_of_ble_eq_true rfl)) gva_nil))) (Nat.le_of_ble_eq_true rfl)) (Nat.le_of_ble_eq_true rfl)) fun v8 G8 s8 hs2 => ?_
  replace hs : Hs G8 _ [some (hd3), some (hd4), none, none] := hs2
  clear hs2
  have sm := sm.trans s8
  generalize List.set _ _ _ = σx8 at hs ⊢
  refine gv_step (d := hd5) hs (gv_cat (es := [.tuple [.tuple [.str "a", .str "b"], .tuple [.str "a", .str "d"], .tuple [.str "b", .str "d"]], .tuple [], .tuple [], .tuple [.tuple [.str "a", .str "c"], .tuple [.str "b", .str "d"]], .tuple [.tuple [.str "a", .str "d"], .tuple [.str "b", .str "c"]], .tuple [.tuple [.str "a", .str "c"], .tuple [.str "a", .str "d"], .tuple [.str "b", .str "e"], .tuple [.str "c", .str "d"]], .tuple [.tuple [.str "a"], .tuple [.str "b"], .tuple [.str "c"]], .tuple [], .tuple [.tuple [.str "a", .str "b", .str "d"], .tuple [.str "c"]]]) (fs := [.tuple [.tuple [.str "a", .str "b", .str "d"], .tuple [.str "c"]]]) (gv_at hs rfl) (gv_lst (gva_cons (gv_from (dI := .tuple [.str "a", .str "b", .str "c", .str "d"]) (dP := .tuple [.tuple [.str "b", .str "d"], .tuple [.str "a", .str "b"], .tuple [.str "b", .str "d"]]) (gva_cons (gv_tup (gva_cons gv_str (gva_cons gv_str (gva_cons gv_str (gva_cons gv_str gva_nil)))) (Nat.le_of_ble_eq_true rfl)) (gva_cons (gv_tup (gva_cons (gv_tup (gva_cons gv_str (gva_cons gv_str gva_nil)) (Nat.le_of_ble_eq_true rfl)) (gva_cons (gv_tup (gva_cons gv_str (gva_cons gv_str gva_nil)) (Nat.le_of_ble_eq_true rfl)) (gva_cons (gv_tup (gva_cons gv_str (gva_cons gv_str gva_nil)) (Nat.le_of_ble_eq_true rfl)) gva_nil))) (Nat.le_of_ble_eq_true rfl)) gva_nil)) fitF9 rfl rfl rfl rfl) gva_nil) (Nat.le_of_ble_eq_true rfl)) (Nat.le_of_ble_eq_true rfl)) fun v9 G9 s9 hs2 => ?_
  replace hs : Hs G9 _ [some (hd5), some (hd4), none, none] := hs2
  clear hs2
  have sm := sm.trans s9
  generalize List.set _ _ _ = σx9 at hs ⊢
  refine gv_step (d := hd6) hs (gv_cat (es := [.tuple [.tuple [.str "a", .str "b"], .tuple [.str "a", .str "d"], .tuple [.str "b", .str "d"]], .tuple [], .tuple [], .tuple [.tuple [.str "a", .str "c"], .tuple [.str "b", .str "d"]], .tuple [.tuple [.str "a", .str "d"], .tuple [.str "b", .str "c"]], .tuple [.tuple [.str "a", .str "c"], .tuple [.str "a", .str "d"], .tuple [.str "b", .str "e"], .tuple [.str "c", .str "d"]], .tuple [.tuple [.str "a"], .tuple [.str "b"], .tuple [.str "c"]], .tuple [], .tuple [.tuple [.str "a", .str "b", .str "d"], .tuple [.str "c"]], .tuple [.tuple [.str "a", .str "b", .str "d"], .tuple [.str "c"]]]) (fs := [.tuple [.tuple [.str "a", .str "b"]]]) (gv_at hs rfl) (gv_lst (gva_cons (gv_from (dI := .tuple [.str "a", .str "b"]) (dP := .tuple [.tuple [.str "a", .str "b"]]) (gva_cons (gv_tup (gva_cons gv_str (gva_cons gv_str gva_nil)) (Nat.le_of_ble_eq_true rfl)) (gva_cons (gv_tup (gva_cons (gv_tup (gva_cons gv_str (gva_cons gv_str gva_nil)) (Nat.le_of_ble_eq_true rfl)) gva_nil) (Nat.le_of_ble_eq_true rfl)) gva_nil)) fitF10 rfl rfl rfl rfl) gva_nil) (Nat.le_of_ble_eq_true rfl)) (Nat.le_of_ble_eq_true rfl)) fun v10 G10 s10 hs2 => ?_
  replace hs : Hs G10 _ [some (hd6), some (hd4), none, none] := hs2
  clear hs2
  have sm := sm.trans s10
  generalize List.set _ _ _ = σx10 at hs ⊢
  refine gv_step (d := hd7) hs (gv_cat (es := [.tuple [.tuple [.str "a", .str "b"], .tuple [.str "a", .str "d"], .tuple [.str "b", .str "d"]], .tuple [], .tuple [], .tuple [.tuple [.str "a", .str "c"], .tuple [.str "b", .str "d"]], .tuple [.tuple [.str "a", .str "d"], .tuple [.str "b", .str "c"]], .tuple [.tuple [.str "a", .str "c"], .tuple [.str "a", .str "d"], .tuple [.str "b", .str "e"], .tuple [.str "c", .str "d"]], .tuple [.tuple [.str "a"], .tuple [.str "b"], .tuple [.str "c"]], .tuple [], .tuple [.tuple [.str "a", .str "b", .str "d"], .tuple [.str "c"]]]) (fs := [.tuple [.tuple [.str "a", .str "b", .str "d"], .tuple [.str "c"]], .tuple [.tuple [.str "a", .str "b"]]]) (gv_at hs rfl) (gv_lst (gva_cons (gv_tup (gva_cons (gv_tup (gva_cons gv_str (gva_cons gv_str (gva_cons gv_str gva_nil))) (Nat.le_of_ble_eq_true rfl)) (gva_cons (gv_tup (gva_cons gv_str gva_nil) (Nat.le_of_ble_eq_true rfl)) gva_nil)) (Nat.le_of_ble_eq_true rfl)) (gva_cons (gv_tup (gva_cons (gv_tup (gva_cons gv_str (gva_cons gv_str gva_nil)) (Nat.le_of_ble_eq_true rfl)) gva_nil) (Nat.le_of_ble_eq_true rfl)) gva_nil)) (Nat.le_of_ble_eq_true rfl)) (Nat.le_of_ble_eq_true rfl)) fun v11 G11 s11 hs2 => ?_
  replace hs : Hs G11 _ [some (hd6), some (hd7), none, none] := hs2
  clear hs2
  have sm := sm.trans s11
  generalize List.set _ _ _ = σx11 at hs ⊢
  refine gv_step (d := hd8) hs (gv_cat (es := [.tuple [.tuple [.str "a", .str "b"], .tuple [.str "a", .str "d"], .tuple [.str "b", .str "d"]], .tuple [], .tuple [], .tuple [.tuple [.str "a", .str "c"], .tuple [.str "b", .str "d"]], .tuple [.tuple [.str "a", .str "d"], .tuple [.str "b", .str "c"]], .tuple [.tuple [.str "a", .str "c"], .tuple [.str "a", .str "d"], .tuple [.str "b", .str "e"], .tuple [.str "c", .str "d"]], .tuple [.tuple [.str "a"], .tuple [.str "b"], .tuple [.str "c"]], .tuple [], .tuple [.tuple [.str "a", .str "b", .str "d"], .tuple [.str "c"]], .tuple [.tuple [.str "a", .str "b", .str "d"], .tuple [.str "c"]], .tuple [.tuple [.str "a", .str "b"]]]) (fs := [.tuple [.tuple [.str "a", .str "c"], .tuple [.str "b", .str "d"]]]) (gv_at hs rfl) (gv_lst (gva_cons (gv_fromK (dI := .list [.str "a", .str "b", .str "c", .str "d"]) (dP := .list [.list [.str "a", .str "c"], .list [.str "b", .str "d"]]) (gva_cons (gv_lst (gva_cons (gv_lst (gva_cons gv_str (gva_cons gv_str gva_nil)) (Nat.le_of_ble_eq_true rfl)) (gva_cons (gv_lst (gva_cons gv_str (gva_cons gv_str gva_nil)) (Nat.le_of_ble_eq_true rfl)) gva_nil)) (Nat.le_of_ble_eq_true rfl)) (gva_cons (gv_lst (gva_cons gv_str (gva_cons gv_str (gva_cons gv_str (gva_cons gv_str gva_nil)))) (Nat.le_of_ble_eq_true rfl)) gva_nil)) fitF11 rfl rfl rfl rfl) gva_nil) (Nat.le_of_ble_eq_true rfl)) (Nat.le_of_ble_eq_true rfl)) fun v12 G12 s12 hs2 => ?_
  replace hs : Hs G12 _ [some (hd8), some (hd7), none, none] := hs2
  clear hs2
  have sm := sm.trans s12
  generalize List.set _ _ _ = σx12 at hs ⊢
  refine gv_step (d := hd9) hs (gv_cat (es := [.tuple [.tuple [.str "a", .str "b"], .tuple [.str "a", .str "d"], .tuple [.str "b", .str "d"]], .tuple [], .tuple [], .tuple [.tuple [.str "a", .str "c"], .tuple [.str "b", .str "d"]], .tuple [.tuple [.str "a", .str "d"], .tuple [.str "b", .str "c"]], .tuple [.tuple [.str "a", .str "c"], .tuple [.str "a", .str "d"], .tuple [.str "b", .str "e"], .tuple [.str "c", .str "d"]], .tuple [.tuple [.str "a"], .tuple [.str "b"], .tuple [.str "c"]], .tuple [], .tuple [.tuple [.str "a", .str "b", .str "d"], .tuple [.str "c"]], .tuple [.tuple [.str "a", .str "b", .str "d"], .tuple [.str "c"]], .tuple [.tuple [.str "a", .str "b"]]]) (fs := [.tuple [.tuple [.str "a", .str "c"], .tuple [.str "b", .str "d"]]]) (gv_at hs rfl) (gv_lst (gva_cons (gv_tup (gva_cons (gv_tup (gva_cons gv_str (gva_cons gv_str gva_nil)) (Nat.le_of_ble_eq_true rfl)) (gva_cons (gv_tup (gva_cons gv_str (gva_cons gv_str gva_nil)) (Nat.le_of_ble_eq_true rfl)) gva_nil)) (Nat.le_of_ble_eq_true rfl)) gva_nil) (Nat.le_of_ble_eq_true rfl)) (Nat.le_of_ble_eq_true rfl)) fun v13 G13 s13 hs2 => ?_
  replace hs : Hs G13 _ [some (hd8), some (hd9), none, none] := hs2
  clear hs2
  have sm := sm.trans s13
  generalize List.set _ _ _ = σx13 at hs ⊢
  refine gv_step (d := hd10) hs (gv_signs (W := ["a", "b", "c", "d", "e", "f", "g", "h", "i", "j", "k", "l"]) (by decide +kernel) (by rfl)) fun v14 G14 s14 hs2 => ?_
  replace hs : Hs G14 _ [some (hd8), some (hd9), some (hd10), none] := hs2
  clear hs2
  have sm := sm.trans s14
  generalize List.set _ _ _ = σx14 at hs ⊢
  refine gv_step (d := hd11) hs (gv_zip (U := ["a", "c", "e", "g", "i", "k"]) (W := ["b", "d", "f", "h", "j", "l"]) (ps := [("a", "b"), ("c", "d"), ("e", "f"), ("g", "h"), ("i", "j"), ("k", "l")]) (gv_every (W := ["a", "b", "c", "d", "e", "f", "g", "h", "i", "j", "k", "l"]) (U := ["a", "c", "e", "g", "i", "k"]) (gv_at hs rfl) (fun _ _ q => q) (by decide +kernel) (by rfl)) (gv_every (W := ["a", "b", "c", "d", "e", "f", "g", "h", "i", "j", "k", "l"]) (U := ["b", "d", "f", "h", "j", "l"]) (gv_at hs rfl) (fun _ _ q => ⟨_, rfl, q⟩) (by decide +kernel) (by rfl)) rfl) fun v15 G15 s15 hs2 => ?_
  replace hs : Hs G15 _ [some (hd8), some (hd9), some (hd10), some (hd11)] := hs2
  clear hs2
  have sm := sm.trans s15
  generalize List.set _ _ _ = σx15 at hs ⊢
  refine gv_step (d := hd12) hs (gv_cat (es := [.tuple [.tuple [.str "a", .str "b"], .tuple [.str "a", .str "d"], .tuple [.str "b", .str "d"]], .tuple [], .tuple [], .tuple [.tuple [.str "a", .str "c"], .tuple [.str "b", .str "d"]], .tuple [.tuple [.str "a", .str "d"], .tuple [.str "b", .str "c"]], .tuple [.tuple [.str "a", .str "c"], .tuple [.str "a", .str "d"], .tuple [.str "b", .str "e"], .tuple [.str "c", .str "d"]], .tuple [.tuple [.str "a"], .tuple [.str "b"], .tuple [.str "c"]], .tuple [], .tuple [.tuple [.str "a", .str "b", .str "d"], .tuple [.str "c"]], .tuple [.tuple [.str "a", .str "b", .str "d"], .tuple [.str "c"]], .tuple [.tuple [.str "a", .str "b"]], .tuple [.tuple [.str "a", .str "c"], .tuple [.str "b", .str "d"]]]) (fs := [.tuple [.tuple [.str "a", .str "b"], .tuple [.str "c", .str "d"], .tuple [.str "e", .str "f"], .tuple [.str "g", .str "h"], .tuple [.str "i", .str "j"], .tuple [.str "k", .str "l"]]]) (gv_at hs rfl) (gv_lst (gva_cons (gv_from (dI := .tuple [.str "a", .str "b", .str "c", .str "d", .str "e", .str "f", .str "g", .str "h", .str "i", .str "j", .str "k", .str "l"]) (dP := .list [.tuple [.str "a", .str "b"], .tuple [.str "c", .str "d"], .tuple [.str "e", .str "f"], .tuple [.str "g", .str "h"], .tuple [.str "i", .str "j"], .tuple [.str "k", .str "l"]]) (gva_cons (gv_at hs rfl) (gva_cons (gv_at hs rfl) gva_nil)) fitF12 rfl rfl rfl rfl) gva_nil) (Nat.le_of_ble_eq_true rfl)) (Nat.le_of_ble_eq_true rfl)) fun v16 G16 s16 hs2 => ?_
  replace hs : Hs G16 _ [some (hd12), some (hd9), some (hd10), some (hd11)] := hs2
  clear hs2
  have sm := sm.trans s16
  generalize List.set _ _ _ = σx16 at hs ⊢
  refine gv_step (d := hd13) hs (gv_cat (es := [.tuple [.tuple [.str "a", .str "b"], .tuple [.str "a", .str "d"], .tuple [.str "b", .str "d"]], .tuple [], .tuple [], .tuple [.tuple [.str "a", .str "c"], .tuple [.str "b", .str "d"]], .tuple [.tuple [.str "a", .str "d"], .tuple [.str "b", .str "c"]], .tuple [.tuple [.str "a", .str "c"], .tuple [.str "a", .str "d"], .tuple [.str "b", .str "e"], .tuple [.str "c", .str "d"]], .tuple [.tuple [.str "a"], .tuple [.str "b"], .tuple [.str "c"]], .tuple [], .tuple [.tuple [.str "a", .str "b", .str "d"], .tuple [.str "c"]], .tuple [.tuple [.str "a", .str "b", .str "d"], .tuple [.str "c"]], .tuple [.tuple [.str "a", .str "b"]], .tuple [.tuple [.str "a", .str "c"], .tuple [.str "b", .str "d"]], .tuple [.tuple [.str "a", .str "b"], .tuple [.str "c", .str "d"], .tuple [.str "e", .str "f"], .tuple [.str "g", .str "h"], .tuple [.str "i", .str "j"], .tuple [.str "k", .str "l"]]]) (fs := [.tuple [.tuple [.str "a", .str "b", .str "c", .str "d", .str "e", .str "f", .str "g", .str "h"], .tuple [.str "i", .str "j"], .tuple [.str "k", .str "l"]]]) (gv_at hs rfl) (gv_lst (gva_cons (gv_from (dI := .tuple [.str "a", .str "b", .str "c", .str "d", .str "e", .str "f", .str "g", .str "h", .str "i", .str "j", .str "k", .str "l"]) (dP := .list [.tuple [.str "a", .str "b"], .tuple [.str "c", .str "d"], .tuple [.str "e", .str "f"], .tuple [.str "g", .str "h"], .tuple [.str "i", .str "j"], .tuple [.str "k", .str "l"], .tuple [.str "b", .str "c"], .tuple [.str "d", .str "e"], .tuple [.str "f", .str "g"]]) (gva_cons (gv_at hs rfl) (gva_cons (gv_cat (es := [.tuple [.str "a", .str "b"], .tuple [.str "c", .str "d"], .tuple [.str "e", .str "f"], .tuple [.str "g", .str "h"], .tuple [.str "i", .str "j"], .tuple [.str "k", .str "l"]]) (fs := [.tuple [.str "b", .str "c"], .tuple [.str "d", .str "e"], .tuple [.str "f", .str "g"]]) (gv_at hs rfl) (gv_lst (gva_cons (gv_tup (gva_cons gv_str (gva_cons gv_str gva_nil)) (Nat.le_of_ble_eq_true rfl)) (gva_cons (gv_tup (gva_cons gv_str (gva_cons gv_str gva_nil)) (Nat.le_of_ble_eq_true rfl)) (gva_cons (gv_tup (gva_cons gv_str (gva_cons gv_str gva_nil)) (Nat.le_of_ble_eq_true rfl)) gva_nil))) (Nat.le_of_ble_eq_true rfl)) (Nat.le_of_ble_eq_true rfl)) gva_nil)) fitF13 rfl rfl rfl rfl) gva_nil) (Nat.le_of_ble_eq_true rfl)) (Nat.le_of_ble_eq_true rfl)) fun v17 G17 s17 hs2 => ?_
  replace hs : Hs G17 _ [some (hd13), some (hd9), some (hd10), some (hd11)] := hs2
  clear hs2
  have sm := sm.trans s17
  generalize List.set _ _ _ = σx17 at hs ⊢
  refine gv_step (d := hd14) hs (gv_cat (es := [.tuple [.tuple [.str "a", .str "b"], .tuple [.str "a", .str "d"], .tuple [.str "b", .str "d"]], .tuple [], .tuple [], .tuple [.tuple [.str "a", .str "c"], .tuple [.str "b", .str "d"]], .tuple [.tuple [.str "a", .str "d"], .tuple [.str "b", .str "c"]], .tuple [.tuple [.str "a", .str "c"], .tuple [.str "a", .str "d"], .tuple [.str "b", .str "e"], .tuple [.str "c", .str "d"]], .tuple [.tuple [.str "a"], .tuple [.str "b"], .tuple [.str "c"]], .tuple [], .tuple [.tuple [.str "a", .str "b", .str "d"], .tuple [.str "c"]], .tuple [.tuple [.str "a", .str "b", .str "d"], .tuple [.str "c"]], .tuple [.tuple [.str "a", .str "b"]], .tuple [.tuple [.str "a", .str "c"], .tuple [.str "b", .str "d"]]]) (fs := [.tuple [.tuple [.str "a", .str "b"], .tuple [.str "c", .str "d"], .tuple [.str "e", .str "f"], .tuple [.str "g", .str "h"], .tuple [.str "i", .str "j"], .tuple [.str "k", .str "l"]], .tuple [.tuple [.str "a", .str "b", .str "c", .str "d", .str "e", .str "f", .str "g", .str "h"], .tuple [.str "i", .str "j"], .tuple [.str "k", .str "l"]]]) (gv_at hs rfl) (gv_lst (gva_cons (gv_frozen (gv_at hs rfl)) (gva_cons (gv_tup (gva_cons (gv_signs (W := ["a", "b", "c", "d", "e", "f", "g", "h"]) (by decide +kernel) (by rfl)) (gva_cons (gv_tup (gva_cons gv_str (gva_cons gv_str gva_nil)) (Nat.le_of_ble_eq_true rfl)) (gva_cons (gv_tup (gva_cons gv_str (gva_cons gv_str gva_nil)) (Nat.le_of_ble_eq_true rfl)) gva_nil))) (Nat.le_of_ble_eq_true rfl)) gva_nil)) (Nat.le_of_ble_eq_true rfl)) (Nat.le_of_ble_eq_true rfl)) fun v18 G18 s18 hs2 => ?_
  replace hs : Hs G18 _ [some (hd13), some (hd14), some (hd10), some (hd11)] := hs2
  clear hs2
  have sm := sm.trans s18
  generalize List.set _ _ _ = σx18 at hs ⊢
  refine gv_step (d := hd15) hs (gv_cat (es := [.tuple [.tuple [.str "a", .str "b"], .tuple [.str "a", .str "d"], .tuple [.str "b", .str "d"]], .tuple [], .tuple [], .tuple [.tuple [.str "a", .str "c"], .tuple [.str "b", .str "d"]], .tuple [.tuple [.str "a", .str "d"], .tuple [.str "b", .str "c"]], .tuple [.tuple [.str "a", .str "c"], .tuple [.str "a", .str "d"], .tuple [.str "b", .str "e"], .tuple [.str "c", .str "d"]], .tuple [.tuple [.str "a"], .tuple [.str "b"], .tuple [.str "c"]], .tuple [], .tuple [.tuple [.str "a", .str "b", .str "d"], .tuple [.str "c"]], .tuple [.tuple [.str "a", .str "b", .str "d"], .tuple [.str "c"]], .tuple [.tuple [.str "a", .str "b"]], .tuple [.tuple [.str "a", .str "c"], .tuple [.str "b", .str "d"]], .tuple [.tuple [.str "a", .str "b"], .tuple [.str "c", .str "d"], .tuple [.str "e", .str "f"], .tuple [.str "g", .str "h"], .tuple [.str "i", .str "j"], .tuple [.str "k", .str "l"]], .tuple [.tuple [.str "a", .str "b", .str "c", .str "d", .str "e", .str "f", .str "g", .str "h"], .tuple [.str "i", .str "j"], .tuple [.str "k", .str "l"]]]) (fs := [.int 66, .tuple [.tuple [.str "a", .str "b", .str "c", .str "d", .str "e", .str "f", .str "g", .str "h", .str "i", .str "j", .str "k", .str "l"]]]) (gv_at hs rfl) (gv_lst (gva_cons (gv_len (gv_joined (d := .tuple [.tuple [.str "a", .str "b", .str "c", .str "d", .str "e", .str "f", .str "g", .str "h", .str "i", .str "j", .str "k", .str "l"]]) (gv_tup (gva_cons (gv_at hs rfl) gva_nil) (Nat.le_of_ble_eq_true rfl)) fitJ14 (frz_lots [["a", "b", "c", "d", "e", "f", "g", "h", "i", "j", "k", "l"]]) (by decide +kernel)) (by decide +kernel)) (gva_cons (gv_from (dI := .tuple [.str "a", .str "b", .str "c", .str "d", .str "e", .str "f", .str "g", .str "h", .str "i", .str "j", .str "k", .str "l"]) (dP := .list [.tuple [.str "k", .str "l"], .tuple [.str "j", .str "k"], .tuple [.str "i", .str "j"], .tuple [.str "h", .str "i"], .tuple [.str "g", .str "h"], .tuple [.str "f", .str "g"], .tuple [.str "e", .str "f"], .tuple [.str "d", .str "e"], .tuple [.str "c", .str "d"], .tuple [.str "b", .str "c"], .tuple [.str "a", .str "b"]]) (gva_cons (gv_at hs rfl) (gva_cons (gv_rev (fs := [.tuple [.str "k", .str "l"], .tuple [.str "j", .str "k"], .tuple [.str "i", .str "j"], .tuple [.str "h", .str "i"], .tuple [.str "g", .str "h"], .tuple [.str "f", .str "g"], .tuple [.str "e", .str "f"], .tuple [.str "d", .str "e"], .tuple [.str "c", .str "d"], .tuple [.str "b", .str "c"], .tuple [.str "a", .str "b"]]) (gv_zip (U := ["a", "b", "c", "d", "e", "f", "g", "h", "i", "j", "k", "l"]) (W := ["b", "c", "d", "e", "f", "g", "h", "i", "j", "k", "l"]) (ps := [("a", "b"), ("b", "c"), ("c", "d"), ("d", "e"), ("e", "f"), ("f", "g"), ("g", "h"), ("h", "i"), ("i", "j"), ("j", "k"), ("k", "l")]) (gv_at hs rfl) (gv_tail (W := ["a", "b", "c", "d", "e", "f", "g", "h", "i", "j", "k", "l"]) (U := ["b", "c", "d", "e", "f", "g", "h", "i", "j", "k", "l"]) (gv_at hs rfl) (fun _ _ q => ⟨_, rfl, q⟩) (fun _ _ q => q) (by rfl)) rfl) rfl) gva_nil)) fitF15 rfl rfl rfl rfl) gva_nil)) (Nat.le_of_ble_eq_true rfl)) (Nat.le_of_ble_eq_true rfl)) fun v19 G19 s19 hs2 => ?_
  replace hs : Hs G19 _ [some (hd15), some (hd14), some (hd10), some (hd11)] := hs2
  clear hs2
  have sm := sm.trans s19
  generalize List.set _ _ _ = σx19 at hs ⊢
  refine gv_ret (es := [hd16, hd16]) (gva_cons (gv_at hs rfl) (gva_cons (gv_cat (es := [.tuple [.tuple [.str "a", .str "b"], .tuple [.str "a", .str "d"], .tuple [.str "b", .str "d"]], .tuple [], .tuple [], .tuple [.tuple [.str "a", .str "c"], .tuple [.str "b", .str "d"]], .tuple [.tuple [.str "a", .str "d"], .tuple [.str "b", .str "c"]], .tuple [.tuple [.str "a", .str "c"], .tuple [.str "a", .str "d"], .tuple [.str "b", .str "e"], .tuple [.str "c", .str "d"]], .tuple [.tuple [.str "a"], .tuple [.str "b"], .tuple [.str "c"]], .tuple [], .tuple [.tuple [.str "a", .str "b", .str "d"], .tuple [.str "c"]], .tuple [.tuple [.str "a", .str "b", .str "d"], .tuple [.str "c"]], .tuple [.tuple [.str "a", .str "b"]], .tuple [.tuple [.str "a", .str "c"], .tuple [.str "b", .str "d"]], .tuple [.tuple [.str "a", .str "b"], .tuple [.str "c", .str "d"], .tuple [.str "e", .str "f"], .tuple [.str "g", .str "h"], .tuple [.str "i", .str "j"], .tuple [.str "k", .str "l"]], .tuple [.tuple [.str "a", .str "b", .str "c", .str "d", .str "e", .str "f", .str "g", .str "h"], .tuple [.str "i", .str "j"], .tuple [.str "k", .str "l"]]]) (fs := [.int 66, .tuple [.tuple [.str "a", .str "b", .str "c", .str "d", .str "e", .str "f", .str "g", .str "h", .str "i", .str "j", .str "k", .str "l"]]]) (gv_at hs rfl) (gv_lst (gva_cons gv_int (gva_cons (gv_tup (gva_cons (gv_at hs rfl) gva_nil) (Nat.le_of_ble_eq_true rfl)) gva_nil)) (Nat.le_of_ble_eq_true rfl)) (Nat.le_of_ble_eq_true rfl)) gva_nil)) fun vs H9 s9 hd => ?_
  cases hd with
  | cons d1 hd =>
  cases hd with
  | cons d2 hd =>
  cases hd
  exact ⟨_, _, hd16, 3, rfl, d1, d2, by decide +kernel, by decide, fun H10 s10 => q H10 (sm.trans (s9.trans s10))⟩
end
end Lf

set_option maxHeartbeats 4000000
namespace Lf
open PySem PySem.Spec PyProof.Rows L2

/-! ## the whole law -/
def spLaw (K : PySem.W.Frag) : Sp := fun vs H Q _ => ∃ (a : Addr) (ns : List Int), vs = [.ref a] ∧ SqL K H a (ns.map V.int) ∧ ns.length ≤ 63 ∧ ∀ H', Q (.bl true) H'
section
variable {P : Program} {w : World} {K : PySem.W.Frag} {mg : Str → Option Value} {base : Heap} {f : Addr} {fd : FuncData}
theorem scLaw : FnScope ["_law_script", "_law_cells_here", "_law_k"] ["_law_script"] (defScope (topS 27)) := ⟨rfl, rfl, rfl, by decide +kernel, rfl, by decide +kernel, by decide +kernel⟩
theorem ok_law (B : Bts mg) (gC : Has P w K mg base 1 "_law_cells" ["_law_script", "_law_top"] (spCells K)) (gX : Has P w K mg base 1 "_law_box" ["_law_script", "_law_k"] (spBox K)) (gH : Has P w K mg base 6 "_law_by_hand_right" [] spHand)
    (gR : Has P w K mg base 6 "_law_right" ["_law_tub"] spRight) (F : Fun K "law" "law" (topS 27) f fd) : FnOk P w K mg base CX0 7 f fd ["_law_script"] (spLaw K) := by
  refine F.ok scLaw (fun vs H Q E h => ?_) (fun cdv A outer s H vs Q E hr h => ?_)
  · obtain ⟨a, ns, rfl, _⟩ := h
    rfl
  obtain ⟨a, ns, rfl, hS, hl, q⟩ := h
  refine ⟨_, pss_cons (ps_if (pt_not (pt_val (pe_has0 gH hr))) (pss_one (ps_ret pe_bl)) pss_nil)
    (pss_cons (ps_set (i := 1) scLaw.nd rfl (Or.inr rfl) (pe_has gC (hr.mono (by decide)) (pa_cons (pv 0) (pa_cons pe_int pa_nil))))
    (pss_one (ps_ret (pe_callB (cr_all rfl) (by rfl) B.all (by decide +kernel) (pa_cons
      (pe_lc (own := [("_law_k", 2)]) (g := gName 2) rfl scLaw.nd (pi_range1 (by rfl) B.range (pa_cons (pe_callB call_len_seq (by rfl) B.len PySem.boot_len (pa_cons (pv 1) pa_nil)) pa_nil))
        (blkOk_by (own := [("_law_k", 2)]) (N := ["_law_script", "_law_cells_here", "_law_k"]) (sc := defScope (topS 27)) (by decide +kernel))
        (fun _ _ _ _ _ => pg_name (i := 2) scLaw.nd rfl (Or.inl rfl)) (fun _ _ _ _ _ => pts_nil)
        (fun _ _ _ _ _ => pe_has gR hr (pa_cons (pe_has gX (hr.mono (by decide)) (pa_cons (pv 1) (pa_cons (pv 2) pa_nil))) pa_nil))) pa_nil))))), ?_⟩
  refine ⟨rfl, fun H1 s1 => ⟨_, rfl, iteF ?_⟩⟩
  refine ⟨_, rfl, a, ns, rfl, ?_, hl, fun cs c H2 s2 hc c1 c2 => ?_⟩
  · exact hS.imp (fun r => r.imp (fun e => s1 _ _ e) fun ⟨o, e⟩ => ⟨o, s1 _ _ e⟩) id
  refine ⟨_, rfl, _, _, rfl, .inl (.of hc), _, rfl, by rw [List.length_map]; omega, by rw [List.length_map]; omega, fun D nD => ?_⟩
  rw [List.length_map]
  refine lc_it (walk_range (lo := 0) (n := (cs.length : Int).toNat)) (fun i H3 => Same H2 H3 ∧ H3 D = some (.lst ((List.replicate i true).map V.bl))) ⟨same_new nD _, upd_same⟩ (fun _ _ _ _ => trivial) (fun i x H3 H4 hi hP hY => ?_) (fun H3 hP => ?_)
  · obtain ⟨rfl, rfl⟩ := hY
    obtain ⟨sm, hD⟩ := hP
    refine ⟨rfl, yes ?_⟩
    rw [if_pos rfl]
    refine ⟨_, rfl, _, rfl, c, cs, _, rfl, .of (sm _ _ hc), by omega, by omega, fun u H5 s5 nu hu => ?_⟩
    refine ⟨u, rfl, hu.le (by decide), fun H6 k6 => ?_⟩
    have s6 : Same H4 H6 := fun b o e => hide_sub _ _ (k6 _ _ (hide_in (ne_of_none e nu) (s5 _ _ e)))
    refine ⟨_, s6 _ _ hD, ?_, same_upd (sm.trans s6) nD _, ?_⟩
    · rw [List.length_map, List.length_replicate]
      exact small1000 (by omega)
    · rw [upd_same, List.replicate_succ', List.map_append]
      rfl
  · obtain ⟨sm, hD⟩ := hP
    refine ⟨D, _, rfl, .of hD, ?_⟩
    rw [show (List.replicate (cs.length : Int).toNat true).all id = true by simp]
    exact q H3
theorem has_frozen (B : Bts mg) (F : Fun K "frozen" "frozen" (topS 1) f fd) (b : Binds K fd ["value"] []) (m : mg "frozen" = some (.ref f)) : ∀ k : Nat, Has P w K mg base k "frozen" ["value"] (spFrozen k)
  | 0 => ⟨f, fd, frozen_none, m, F.kp, b⟩
  | k + 1 => ⟨f, fd, ok_frozen B (has_frozen B F b m k) F, m, F.kp, b⟩
theorem has_lists (B : Bts mg) (F : Fun K "_law_lists" "_law_lists" (topS 20) f fd) (b : Binds K fd ["_law_matter"] []) (m : mg "_law_lists" = some (.ref f)) : ∀ k : Nat, Has P w K mg base k "_law_lists" ["_law_matter"] (spLists k)
  | 0 => ⟨f, fd, lists_none, m, F.kp, b⟩
  | k + 1 => ⟨f, fd, ok_lists B (has_lists B F b m k) F, m, F.kp, b⟩
end

/-! ## the program's top -/
theorem vals_rev : ∀ {vs : List V} {us : List Value}, Vals vs us → Vals vs.reverse us.reverse
  | _, _, .nil => .nil
  | _, _, .cons r t => by
    rw [List.reverse_cons, List.reverse_cons]
    exact (vals_rev t).append (.cons r .nil)
theorem kbinds_one {K : PySem.W.Frag} {f : Addr} {fd : FuncData} (F : Fun K "pairs_joined" "pairs_joined" (topS 12) f fd) : KBinds K fd ["parting"] ["parting"] (fun us ws => us ++ ws) gVOne := by
  obtain ⟨oc, od, kV, doc, pm, an, cdv, ct, osl, rfl, lk, hcd⟩ := F.ex
  refine ⟨fun s us ws X hl => ?_, fun r1 r2 => Vals.append r1 r2⟩
  match us, ws, hl with
  | [u], [], _ => exact .of_eq rfl
  | [], [u], _ => exact .of_eq rfl
theorem kbinds_two {K : PySem.W.Frag} {f : Addr} {fd : FuncData} (F : Fun K "lots_from" "lots_from" (topS 13) f fd) : KBinds K fd ["islands", "pairs"] ["pairs", "islands"] (fun us ws => us ++ ws.reverse) gVFrom := by
  obtain ⟨oc, od, kV, doc, pm, an, cdv, ct, osl, rfl, lk, hcd⟩ := F.ex
  refine ⟨fun s us ws X hl => ?_, fun r1 r2 => Vals.append r1 (vals_rev r2)⟩
  have hl2 : us.length + ws.length = 2 := by rw [List.length_append, List.length_reverse] at hl; exact hl
  match us, ws, hl2 with
  | [u, v], [], _ => exact .of_eq rfl
  | [u], [v], _ => exact .of_eq rfl
  | [], [u, v], _ => exact .of_eq rfl
  | [_], [], z => cases z
  | [_], _ :: _ :: _, z => simp only [List.length_cons, List.length_nil] at z; omega
  | [], [], z => cases z
  | [], [_], z => cases z
  | [], _ :: _ :: _ :: _, z => simp only [List.length_cons, List.length_nil] at z; omega
  | _ :: _ :: _ :: _, _, z => simp only [List.length_cons] at z; omega
  | [_, _], _ :: _, z => simp only [List.length_cons, List.length_nil] at z; omega
/-- a def of the text as the top leaves it -/
def DefAt (K : PySem.W.Frag) (mg : Str → Option Value) (x : Str) (st : Stmt) : Prop := ∃ (f : Addr) (fd : FuncData), Fun K x x st f fd ∧ mg x = some (.ref f)
theorem def_mk {K : PySem.W.Frag} {h : Heap} {mg : Str → Option Value} (X : K.In h) (G : h.Ns mainGlobals mg) {x : Str} {st : Stmt} {f : Addr} {od an : Option Addr} {sl : Array (Option Value)} {oc kV dc pm cd ct : Value}
    (a : PySem.W.nsIn K mainGlobals x = some (some (.ref f))) (l : K.lookup f = some ⟨oc, od, .func (PySem.W.fnOf x x (defArgs st) (defBody st) (defScope st) .none kV dc pm an cd ct), sl⟩) (c : PySem.W.codeIn K cd x = true) (k : PySem.W.keepIn K (.ref f) = true) : DefAt K mg x st :=
  ⟨f, _, fun_mk l c k, PySem.W.mg_of X G a⟩
section
variable {P : Program} {w : World} {K : PySem.W.Frag} {mg : Str → Option Value} {base : Heap}
/-- all that the top leaves keeps its promise -/
theorem all_ok (B : Bts mg) (d1 : DefAt K mg "frozen" (topS 1)) (d2 : DefAt K mg "ascending" (topS 2)) (d4 : DefAt K mg "marks_alone" (topS 4)) (d5 : DefAt K mg "marks_of" (topS 5)) (d6 : DefAt K mg "lots_of" (topS 6)) (d7 : DefAt K mg "joins" (topS 7)) (d8 : DefAt K mg "pairs_of" (topS 8)) (d9 : DefAt K mg "merged" (topS 9)) (d10 : DefAt K mg "all_merged" (topS 10)) (d12 : DefAt K mg "pairs_joined" (topS 12)) (d13 : DefAt K mg "lots_from" (topS 13)) (d15 : DefAt K mg "_law_box" (topS 15)) (d16 : DefAt K mg "_law_take" (topS 16)) (d17 : DefAt K mg "_law_cells" (topS 17)) (d18 : DefAt K mg "_law_pick" (topS 18)) (d19 : DefAt K mg "_law_same" (topS 19)) (d20 : DefAt K mg "_law_lists" (topS 20)) (d21 : DefAt K mg "_law_tags" (topS 21)) (d22 : DefAt K mg "_law_twos" (topS 22)) (d23 : DefAt K mg "_law_joins" (topS 23)) (d24 : DefAt K mg "_law_reach" (topS 24)) (d25 : DefAt K mg "_law_by_hand_right" (topS 25)) (d26 : DefAt K mg "_law_right" (topS 26)) {f : Addr} {fd : FuncData} (F : Fun K "law" "law" (topS 27) f fd) : FnOk P w K mg base CX0 7 f fd ["_law_script"] (spLaw K) := by
  obtain ⟨f1, fd1, F1, m1⟩ := d1
  have b1 : Binds K fd1 ["value"] [] := F1.binds fun _ _ _ _ _ _ us hl => match us, hl with | [_], _ => rfl
  obtain ⟨f2, fd2, F2, m2⟩ := d2
  have b2 : Binds K fd2 ["values"] [] := F2.binds fun _ _ _ _ _ _ us hl => match us, hl with | [_], _ => rfl
  obtain ⟨f4, fd4, F4, m4⟩ := d4
  have b4 : Binds K fd4 ["islands"] [] := F4.binds fun _ _ _ _ _ _ us hl => match us, hl with | [_], _ => rfl
  obtain ⟨f5, fd5, F5, m5⟩ := d5
  have b5 : Binds K fd5 ["parting"] [] := F5.binds fun _ _ _ _ _ _ us hl => match us, hl with | [_], _ => rfl
  obtain ⟨f6, fd6, F6, m6⟩ := d6
  have b6 : Binds K fd6 ["marks"] [] := F6.binds fun _ _ _ _ _ _ us hl => match us, hl with | [_], _ => rfl
  obtain ⟨f7, fd7, F7, m7⟩ := d7
  have b7 : Binds K fd7 ["marks", "pair"] [] := F7.binds fun _ _ _ _ _ _ us hl => match us, hl with | [_, _], _ => rfl
  obtain ⟨f8, fd8, F8, m8⟩ := d8
  have b8 : Binds K fd8 ["marks"] [] := F8.binds fun _ _ _ _ _ _ us hl => match us, hl with | [_], _ => rfl
  obtain ⟨f9, fd9, F9, m9⟩ := d9
  have b9 : Binds K fd9 ["marks", "pair"] [] := F9.binds fun _ _ _ _ _ _ us hl => match us, hl with | [_, _], _ => rfl
  obtain ⟨f10, fd10, F10, m10⟩ := d10
  have b10 : Binds K fd10 ["marks", "pairs"] [] := F10.binds fun _ _ _ _ _ _ us hl => match us, hl with | [_, _], _ => rfl
  obtain ⟨f12, fd12, F12, m12⟩ := d12
  have b12 : Binds K fd12 ["parting"] [] := F12.binds fun _ _ _ _ _ _ us hl => match us, hl with | [_], _ => rfl
  obtain ⟨f13, fd13, F13, m13⟩ := d13
  have b13 : Binds K fd13 ["islands", "pairs"] [] := F13.binds fun _ _ _ _ _ _ us hl => match us, hl with | [_, _], _ => rfl
  obtain ⟨f15, fd15, F15, m15⟩ := d15
  have b15 : Binds K fd15 ["_law_script", "_law_k"] [] := F15.binds fun _ _ _ _ _ _ us hl => match us, hl with | [_, _], _ => rfl
  obtain ⟨f16, fd16, F16, m16⟩ := d16
  have b16 : Binds K fd16 ["_law_tub", "_law_under"] [] := F16.binds fun _ _ _ _ _ _ us hl => match us, hl with | [_, _], _ => rfl
  obtain ⟨f17, fd17, F17, m17⟩ := d17
  have b17 : Binds K fd17 ["_law_script", "_law_top"] [] := F17.binds fun _ _ _ _ _ _ us hl => match us, hl with | [_, _], _ => rfl
  obtain ⟨f18, fd18, F18, m18⟩ := d18
  have b18 : Binds K fd18 ["_law_tub", "_law_some", "_law_many"] [] := F18.binds fun _ _ _ _ _ _ us hl => match us, hl with | [_, _, _], _ => rfl
  obtain ⟨f19, fd19, F19, m19⟩ := d19
  have b19 : Binds K fd19 ["_law_got", "_law_due"] [] := F19.binds fun _ _ _ _ _ _ us hl => match us, hl with | [_, _], _ => rfl
  obtain ⟨f20, fd20, F20, m20⟩ := d20
  have b20 : Binds K fd20 ["_law_matter"] [] := F20.binds fun _ _ _ _ _ _ us hl => match us, hl with | [_], _ => rfl
  obtain ⟨f21, fd21, F21, m21⟩ := d21
  have b21 : Binds K fd21 ["_law_tub", "_law_most"] [] := F21.binds fun _ _ _ _ _ _ us hl => match us, hl with | [_, _], _ => rfl
  obtain ⟨f22, fd22, F22, m22⟩ := d22
  have b22 : Binds K fd22 ["_law_tags_here"] [] := F22.binds fun _ _ _ _ _ _ us hl => match us, hl with | [_], _ => rfl
  obtain ⟨f23, fd23, F23, m23⟩ := d23
  have b23 : Binds K fd23 ["_law_own", "_law_two_so"] [] := F23.binds fun _ _ _ _ _ _ us hl => match us, hl with | [_, _], _ => rfl
  obtain ⟨f24, fd24, F24, m24⟩ := d24
  have b24 : Binds K fd24 ["_law_tags_here", "_law_some", "_law_tag"] [] := F24.binds fun _ _ _ _ _ _ us hl => match us, hl with | [_, _, _], _ => rfl
  obtain ⟨f25, fd25, F25, m25⟩ := d25
  have b25 : Binds K fd25 [] [] := F25.binds fun _ _ _ _ _ _ us hl => match us, hl with | [], _ => rfl
  obtain ⟨f26, fd26, F26, m26⟩ := d26
  have b26 : Binds K fd26 ["_law_tub"] [] := F26.binds fun _ _ _ _ _ _ us hl => match us, hl with | [_], _ => rfl
  have g1 := has_frozen (P := P) (w := w) (base := base) B F1 b1 m1 4
  have g19 := has_same (P := P) (w := w) (base := base) B F19 b19 m19 4
  have g20 := has_lists (P := P) (w := w) (base := base) B F20 b20 m20 3
  have g2 : Has P w K mg base 1 "ascending" ["values"] (spAscending K) := ⟨f2, fd2, ok_ascending B F2, m2, F2.kp, b2⟩
  have g4 : Has P w K mg base 1 "marks_alone" ["islands"] (spAlone K) := ⟨f4, fd4, ok_alone B F4, m4, F4.kp, b4⟩
  have g7 : Has P w K mg base 1 "joins" ["marks", "pair"] spJoins := ⟨f7, fd7, ok_joins B F7, m7, F7.kp, b7⟩
  have g5 : Has P w K mg base 1 "marks_of" ["parting"] spMarksOf := ⟨f5, fd5, ok_marks B F5, m5, F5.kp, b5⟩
  have g9 : Has P w K mg base 1 "merged" ["marks", "pair"] spMerged := ⟨f9, fd9, ok_merged B F9, m9, F9.kp, b9⟩
  have g10 : Has P w K mg base 2 "all_merged" ["marks", "pairs"] spAll := ⟨f10, fd10, ok_all B g7 g9 F10, m10, F10.kp, b10⟩
  have g6 : Has P w K mg base 2 "lots_of" ["marks"] spLots := ⟨f6, fd6, ok_lots B g2 F6, m6, F6.kp, b6⟩
  have g13 : Has P w K mg base 3 "lots_from" ["islands", "pairs"] spFrom := ⟨f13, fd13, ok_from g4 g10 g6 F13, m13, F13.kp, b13⟩
  have g8 : Has P w K mg base 1 "pairs_of" ["marks"] spPairs := ⟨f8, fd8, ok_pairsof B F8, m8, F8.kp, b8⟩
  have g12 : Has P w K mg base 5 "pairs_joined" ["parting"] (spJoined 4) := ⟨f12, fd12, ok_joined g1 g5 g8 F12, m12, F12.kp, b12⟩
  have w13 : HasW P w K mg base 3 "lots_from" ["islands", "pairs"] ["pairs", "islands"] gVFrom spFrom := ⟨f13, fd13, _, ok_from g4 g10 g6 F13, m13, F13.kp, kbinds_two F13⟩
  have w12 : HasW P w K mg base 5 "pairs_joined" ["parting"] ["parting"] gVOne (spJoined 4) := ⟨f12, fd12, _, ok_joined g1 g5 g8 F12, m12, F12.kp, kbinds_one F12⟩
  have g16 : Has P w K mg base 1 "_law_take" ["_law_tub", "_law_under"] spTake := ⟨f16, fd16, ok_take B F16, m16, F16.kp, b16⟩
  have g15 : Has P w K mg base 1 "_law_box" ["_law_script", "_law_k"] (spBox K) := ⟨f15, fd15, ok_box B F15, m15, F15.kp, b15⟩
  have g17 : Has P w K mg base 1 "_law_cells" ["_law_script", "_law_top"] (spCells K) := ⟨f17, fd17, ok_cells B F17, m17, F17.kp, b17⟩
  have g18 : Has P w K mg base 2 "_law_pick" ["_law_tub", "_law_some", "_law_many"] spPick := ⟨f18, fd18, ok_pick B g16 F18, m18, F18.kp, b18⟩
  have g21 : Has P w K mg base 3 "_law_tags" ["_law_tub", "_law_most"] spTags := ⟨f21, fd21, ok_tags B g16 g18 F21, m21, F21.kp, b21⟩
  have g22 : Has P w K mg base 1 "_law_twos" ["_law_tags_here"] spLTwos := ⟨f22, fd22, ok_twos B F22, m22, F22.kp, b22⟩
  have g23 : Has P w K mg base 1 "_law_joins" ["_law_own", "_law_two_so"] spLJoins := ⟨f23, fd23, ok_ljoins B F23, m23, F23.kp, b23⟩
  have g24 : Has P w K mg base 1 "_law_reach" ["_law_tags_here", "_law_some", "_law_tag"] spReach := ⟨f24, fd24, ok_reach B F24, m24, F24.kp, b24⟩
  have g25 : Has P w K mg base 6 "_law_by_hand_right" [] spHand := ⟨f25, fd25, ok_hand B g13 w13 g19 g12 w12 F25, m25, F25.kp, b25⟩
  have g26 : Has P w K mg base 6 "_law_right" ["_law_tub"] spRight := ⟨f26, fd26, ok_right B g16 g18 g21 g22 g24 g13 w13 g20 g19 g23 g12 w12 F26, m26, F26.kp, b26⟩
  exact ok_law B g17 g15 g25 g26 F
end
theorem all_mk {l : PySem.W.OpenLaw} {w : World} {K : PySem.W.Frag} {h : Heap} {mg : Str → Option Value} {fa : Addr} (X : K.In h) (G : h.Ns mainGlobals mg) (hfa : mg "law" = some (.ref fa))
    {f1 f2 f4 f5 f6 f7 f8 f9 f10 f12 f13 f15 f16 f17 f18 f19 f20 f21 f22 f23 f24 f25 f26 f27 : Addr} {od1 an1 od2 an2 od4 an4 od5 an5 od6 an6 od7 an7 od8 an8 od9 an9 od10 an10 od12 an12 od13 an13 od15 an15 od16 an16 od17 an17 od18 an18 od19 an19 od20 an20 od21 an21 od22 an22 od23 an23 od24 an24 od25 an25 od26 an26 od27 an27 : Option Addr} {sl1 sl2 sl4 sl5 sl6 sl7 sl8 sl9 sl10 sl12 sl13 sl15 sl16 sl17 sl18 sl19 sl20 sl21 sl22 sl23 sl24 sl25 sl26 sl27 : Array (Option Value)} {oc1 kV1 dc1 pm1 cd1 ct1 oc2 kV2 dc2 pm2 cd2 ct2 oc4 kV4 dc4 pm4 cd4 ct4 oc5 kV5 dc5 pm5 cd5 ct5 oc6 kV6 dc6 pm6 cd6 ct6 oc7 kV7 dc7 pm7 cd7 ct7 oc8 kV8 dc8 pm8 cd8 ct8 oc9 kV9 dc9 pm9 cd9 ct9 oc10 kV10 dc10 pm10 cd10 ct10 oc12 kV12 dc12 pm12 cd12 ct12 oc13 kV13 dc13 pm13 cd13 ct13 oc15 kV15 dc15 pm15 cd15 ct15 oc16 kV16 dc16 pm16 cd16 ct16 oc17 kV17 dc17 pm17 cd17 ct17 oc18 kV18 dc18 pm18 cd18 ct18 oc19 kV19 dc19 pm19 cd19 ct19 oc20 kV20 dc20 pm20 cd20 ct20 oc21 kV21 dc21 pm21 cd21 ct21 oc22 kV22 dc22 pm22 cd22 ct22 oc23 kV23 dc23 pm23 cd23 ct23 oc24 kV24 dc24 pm24 cd24 ct24 oc25 kV25 dc25 pm25 cd25 ct25 oc26 kV26 dc26 pm26 cd26 ct26 oc27 kV27 dc27 pm27 cd27 ct27 : Value}
    (a1 : PySem.W.nsIn K mainGlobals "frozen" = some (some (.ref f1))) (l1 : K.lookup f1 = some ⟨oc1, od1, .func (PySem.W.fnOf "frozen" "frozen" (defArgs (topS 1)) (defBody (topS 1)) (defScope (topS 1)) .none kV1 dc1 pm1 an1 cd1 ct1), sl1⟩) (c1 : PySem.W.codeIn K cd1 "frozen" = true) (k1 : PySem.W.keepIn K (.ref f1) = true)
    (a2 : PySem.W.nsIn K mainGlobals "ascending" = some (some (.ref f2))) (l2 : K.lookup f2 = some ⟨oc2, od2, .func (PySem.W.fnOf "ascending" "ascending" (defArgs (topS 2)) (defBody (topS 2)) (defScope (topS 2)) .none kV2 dc2 pm2 an2 cd2 ct2), sl2⟩) (c2 : PySem.W.codeIn K cd2 "ascending" = true) (k2 : PySem.W.keepIn K (.ref f2) = true)
    (a4 : PySem.W.nsIn K mainGlobals "marks_alone" = some (some (.ref f4))) (l4 : K.lookup f4 = some ⟨oc4, od4, .func (PySem.W.fnOf "marks_alone" "marks_alone" (defArgs (topS 4)) (defBody (topS 4)) (defScope (topS 4)) .none kV4 dc4 pm4 an4 cd4 ct4), sl4⟩) (c4 : PySem.W.codeIn K cd4 "marks_alone" = true) (k4 : PySem.W.keepIn K (.ref f4) = true)
    (a5 : PySem.W.nsIn K mainGlobals "marks_of" = some (some (.ref f5))) (l5 : K.lookup f5 = some ⟨oc5, od5, .func (PySem.W.fnOf "marks_of" "marks_of" (defArgs (topS 5)) (defBody (topS 5)) (defScope (topS 5)) .none kV5 dc5 pm5 an5 cd5 ct5), sl5⟩) (c5 : PySem.W.codeIn K cd5 "marks_of" = true) (k5 : PySem.W.keepIn K (.ref f5) = true)
    (a6 : PySem.W.nsIn K mainGlobals "lots_of" = some (some (.ref f6))) (l6 : K.lookup f6 = some ⟨oc6, od6, .func (PySem.W.fnOf "lots_of" "lots_of" (defArgs (topS 6)) (defBody (topS 6)) (defScope (topS 6)) .none kV6 dc6 pm6 an6 cd6 ct6), sl6⟩) (c6 : PySem.W.codeIn K cd6 "lots_of" = true) (k6 : PySem.W.keepIn K (.ref f6) = true)
    (a7 : PySem.W.nsIn K mainGlobals "joins" = some (some (.ref f7))) (l7 : K.lookup f7 = some ⟨oc7, od7, .func (PySem.W.fnOf "joins" "joins" (defArgs (topS 7)) (defBody (topS 7)) (defScope (topS 7)) .none kV7 dc7 pm7 an7 cd7 ct7), sl7⟩) (c7 : PySem.W.codeIn K cd7 "joins" = true) (k7 : PySem.W.keepIn K (.ref f7) = true)
    (a8 : PySem.W.nsIn K mainGlobals "pairs_of" = some (some (.ref f8))) (l8 : K.lookup f8 = some ⟨oc8, od8, .func (PySem.W.fnOf "pairs_of" "pairs_of" (defArgs (topS 8)) (defBody (topS 8)) (defScope (topS 8)) .none kV8 dc8 pm8 an8 cd8 ct8), sl8⟩) (c8 : PySem.W.codeIn K cd8 "pairs_of" = true) (k8 : PySem.W.keepIn K (.ref f8) = true)
    (a9 : PySem.W.nsIn K mainGlobals "merged" = some (some (.ref f9))) (l9 : K.lookup f9 = some ⟨oc9, od9, .func (PySem.W.fnOf "merged" "merged" (defArgs (topS 9)) (defBody (topS 9)) (defScope (topS 9)) .none kV9 dc9 pm9 an9 cd9 ct9), sl9⟩) (c9 : PySem.W.codeIn K cd9 "merged" = true) (k9 : PySem.W.keepIn K (.ref f9) = true)
    (a10 : PySem.W.nsIn K mainGlobals "all_merged" = some (some (.ref f10))) (l10 : K.lookup f10 = some ⟨oc10, od10, .func (PySem.W.fnOf "all_merged" "all_merged" (defArgs (topS 10)) (defBody (topS 10)) (defScope (topS 10)) .none kV10 dc10 pm10 an10 cd10 ct10), sl10⟩) (c10 : PySem.W.codeIn K cd10 "all_merged" = true) (k10 : PySem.W.keepIn K (.ref f10) = true)
    (a12 : PySem.W.nsIn K mainGlobals "pairs_joined" = some (some (.ref f12))) (l12 : K.lookup f12 = some ⟨oc12, od12, .func (PySem.W.fnOf "pairs_joined" "pairs_joined" (defArgs (topS 12)) (defBody (topS 12)) (defScope (topS 12)) .none kV12 dc12 pm12 an12 cd12 ct12), sl12⟩) (c12 : PySem.W.codeIn K cd12 "pairs_joined" = true) (k12 : PySem.W.keepIn K (.ref f12) = true)
    (a13 : PySem.W.nsIn K mainGlobals "lots_from" = some (some (.ref f13))) (l13 : K.lookup f13 = some ⟨oc13, od13, .func (PySem.W.fnOf "lots_from" "lots_from" (defArgs (topS 13)) (defBody (topS 13)) (defScope (topS 13)) .none kV13 dc13 pm13 an13 cd13 ct13), sl13⟩) (c13 : PySem.W.codeIn K cd13 "lots_from" = true) (k13 : PySem.W.keepIn K (.ref f13) = true)
    (a15 : PySem.W.nsIn K mainGlobals "_law_box" = some (some (.ref f15))) (l15 : K.lookup f15 = some ⟨oc15, od15, .func (PySem.W.fnOf "_law_box" "_law_box" (defArgs (topS 15)) (defBody (topS 15)) (defScope (topS 15)) .none kV15 dc15 pm15 an15 cd15 ct15), sl15⟩) (c15 : PySem.W.codeIn K cd15 "_law_box" = true) (k15 : PySem.W.keepIn K (.ref f15) = true)
    (a16 : PySem.W.nsIn K mainGlobals "_law_take" = some (some (.ref f16))) (l16 : K.lookup f16 = some ⟨oc16, od16, .func (PySem.W.fnOf "_law_take" "_law_take" (defArgs (topS 16)) (defBody (topS 16)) (defScope (topS 16)) .none kV16 dc16 pm16 an16 cd16 ct16), sl16⟩) (c16 : PySem.W.codeIn K cd16 "_law_take" = true) (k16 : PySem.W.keepIn K (.ref f16) = true)
    (a17 : PySem.W.nsIn K mainGlobals "_law_cells" = some (some (.ref f17))) (l17 : K.lookup f17 = some ⟨oc17, od17, .func (PySem.W.fnOf "_law_cells" "_law_cells" (defArgs (topS 17)) (defBody (topS 17)) (defScope (topS 17)) .none kV17 dc17 pm17 an17 cd17 ct17), sl17⟩) (c17 : PySem.W.codeIn K cd17 "_law_cells" = true) (k17 : PySem.W.keepIn K (.ref f17) = true)
    (a18 : PySem.W.nsIn K mainGlobals "_law_pick" = some (some (.ref f18))) (l18 : K.lookup f18 = some ⟨oc18, od18, .func (PySem.W.fnOf "_law_pick" "_law_pick" (defArgs (topS 18)) (defBody (topS 18)) (defScope (topS 18)) .none kV18 dc18 pm18 an18 cd18 ct18), sl18⟩) (c18 : PySem.W.codeIn K cd18 "_law_pick" = true) (k18 : PySem.W.keepIn K (.ref f18) = true)
    (a19 : PySem.W.nsIn K mainGlobals "_law_same" = some (some (.ref f19))) (l19 : K.lookup f19 = some ⟨oc19, od19, .func (PySem.W.fnOf "_law_same" "_law_same" (defArgs (topS 19)) (defBody (topS 19)) (defScope (topS 19)) .none kV19 dc19 pm19 an19 cd19 ct19), sl19⟩) (c19 : PySem.W.codeIn K cd19 "_law_same" = true) (k19 : PySem.W.keepIn K (.ref f19) = true)
    (a20 : PySem.W.nsIn K mainGlobals "_law_lists" = some (some (.ref f20))) (l20 : K.lookup f20 = some ⟨oc20, od20, .func (PySem.W.fnOf "_law_lists" "_law_lists" (defArgs (topS 20)) (defBody (topS 20)) (defScope (topS 20)) .none kV20 dc20 pm20 an20 cd20 ct20), sl20⟩) (c20 : PySem.W.codeIn K cd20 "_law_lists" = true) (k20 : PySem.W.keepIn K (.ref f20) = true)
    (a21 : PySem.W.nsIn K mainGlobals "_law_tags" = some (some (.ref f21))) (l21 : K.lookup f21 = some ⟨oc21, od21, .func (PySem.W.fnOf "_law_tags" "_law_tags" (defArgs (topS 21)) (defBody (topS 21)) (defScope (topS 21)) .none kV21 dc21 pm21 an21 cd21 ct21), sl21⟩) (c21 : PySem.W.codeIn K cd21 "_law_tags" = true) (k21 : PySem.W.keepIn K (.ref f21) = true)
    (a22 : PySem.W.nsIn K mainGlobals "_law_twos" = some (some (.ref f22))) (l22 : K.lookup f22 = some ⟨oc22, od22, .func (PySem.W.fnOf "_law_twos" "_law_twos" (defArgs (topS 22)) (defBody (topS 22)) (defScope (topS 22)) .none kV22 dc22 pm22 an22 cd22 ct22), sl22⟩) (c22 : PySem.W.codeIn K cd22 "_law_twos" = true) (k22 : PySem.W.keepIn K (.ref f22) = true)
    (a23 : PySem.W.nsIn K mainGlobals "_law_joins" = some (some (.ref f23))) (l23 : K.lookup f23 = some ⟨oc23, od23, .func (PySem.W.fnOf "_law_joins" "_law_joins" (defArgs (topS 23)) (defBody (topS 23)) (defScope (topS 23)) .none kV23 dc23 pm23 an23 cd23 ct23), sl23⟩) (c23 : PySem.W.codeIn K cd23 "_law_joins" = true) (k23 : PySem.W.keepIn K (.ref f23) = true)
    (a24 : PySem.W.nsIn K mainGlobals "_law_reach" = some (some (.ref f24))) (l24 : K.lookup f24 = some ⟨oc24, od24, .func (PySem.W.fnOf "_law_reach" "_law_reach" (defArgs (topS 24)) (defBody (topS 24)) (defScope (topS 24)) .none kV24 dc24 pm24 an24 cd24 ct24), sl24⟩) (c24 : PySem.W.codeIn K cd24 "_law_reach" = true) (k24 : PySem.W.keepIn K (.ref f24) = true)
    (a25 : PySem.W.nsIn K mainGlobals "_law_by_hand_right" = some (some (.ref f25))) (l25 : K.lookup f25 = some ⟨oc25, od25, .func (PySem.W.fnOf "_law_by_hand_right" "_law_by_hand_right" (defArgs (topS 25)) (defBody (topS 25)) (defScope (topS 25)) .none kV25 dc25 pm25 an25 cd25 ct25), sl25⟩) (c25 : PySem.W.codeIn K cd25 "_law_by_hand_right" = true) (k25 : PySem.W.keepIn K (.ref f25) = true)
    (a26 : PySem.W.nsIn K mainGlobals "_law_right" = some (some (.ref f26))) (l26 : K.lookup f26 = some ⟨oc26, od26, .func (PySem.W.fnOf "_law_right" "_law_right" (defArgs (topS 26)) (defBody (topS 26)) (defScope (topS 26)) .none kV26 dc26 pm26 an26 cd26 ct26), sl26⟩) (c26 : PySem.W.codeIn K cd26 "_law_right" = true) (k26 : PySem.W.keepIn K (.ref f26) = true)
    (a27 : PySem.W.nsIn K mainGlobals "law" = some (some (.ref f27))) (l27 : K.lookup f27 = some ⟨oc27, od27, .func (PySem.W.fnOf "law" "law" (defArgs (topS 27)) (defBody (topS 27)) (defScope (topS 27)) .none kV27 dc27 pm27 an27 cd27 ct27), sl27⟩) (c27 : PySem.W.codeIn K cd27 "law" = true) (k27 : PySem.W.keepIn K (.ref f27) = true)
    (z0 : PySem.W.nsIn K mainGlobals "len" = some none)
    (z1 : PySem.W.nsIn K mainGlobals "isinstance" = some none)
    (z2 : PySem.W.nsIn K mainGlobals "tuple" = some none)
    (z3 : PySem.W.nsIn K mainGlobals "list" = some none)
    (z4 : PySem.W.nsIn K mainGlobals "str" = some none)
    (z5 : PySem.W.nsIn K mainGlobals "bool" = some none)
    (z6 : PySem.W.nsIn K mainGlobals "int" = some none)
    (z7 : PySem.W.nsIn K mainGlobals "all" = some none)
    (z8 : PySem.W.nsIn K mainGlobals "zip" = some none)
    (z9 : PySem.W.nsIn K mainGlobals "range" = some none)
    (z10 : PySem.W.nsIn K mainGlobals "sorted" = some none)
    (z11 : PySem.W.nsIn K mainGlobals "abs" = some none)
    (z12 : PySem.W.nsIn K mainGlobals "min" = some none)
    (z13 : PySem.W.nsIn K mainGlobals "set" = some none)
    (z14 : PySem.W.nsIn K mainGlobals "enumerate" = some none)
    : ∃ fd : FuncData, (∀ (s : Shared) (v : Value), BindsTo s fd ⟨[v], []⟩ [("_law_script", v)]) ∧ ∀ base : Heap, K.In base → base.Ns mainGlobals mg → FnOk l.prog w K mg base CX0 7 fa fd ["_law_script"] (spLaw K) := by
  have e := hfa.symm.trans (PySem.W.mg_of X G a27)
  cases e
  have F27 := fun_mk (st := topS 27) l27 c27 k27
  have B : Bts mg := ⟨PySem.W.mg_none_of X G z0, PySem.W.mg_none_of X G z1, PySem.W.mg_none_of X G z2, PySem.W.mg_none_of X G z3, PySem.W.mg_none_of X G z4, PySem.W.mg_none_of X G z5, PySem.W.mg_none_of X G z6, PySem.W.mg_none_of X G z7, PySem.W.mg_none_of X G z8, PySem.W.mg_none_of X G z9, PySem.W.mg_none_of X G z10, PySem.W.mg_none_of X G z11, PySem.W.mg_none_of X G z12, PySem.W.mg_none_of X G z13, PySem.W.mg_none_of X G z14⟩
  refine ⟨PySem.W.fnOf "law" "law" (defArgs (topS 27)) (defBody (topS 27)) (defScope (topS 27)) .none kV27 dc27 pm27 an27 cd27 ct27, fun s v => .of_eq rfl, fun base _ _ => ?_⟩
  exact all_ok B (def_mk X G a1 l1 c1 k1) (def_mk X G a2 l2 c2 k2) (def_mk X G a4 l4 c4 k4) (def_mk X G a5 l5 c5 k5) (def_mk X G a6 l6 c6 k6) (def_mk X G a7 l7 c7 k7) (def_mk X G a8 l8 c8 k8) (def_mk X G a9 l9 c9 k9) (def_mk X G a10 l10 c10 k10) (def_mk X G a12 l12 c12 k12) (def_mk X G a13 l13 c13 k13) (def_mk X G a15 l15 c15 k15) (def_mk X G a16 l16 c16 k16) (def_mk X G a17 l17 c17 k17) (def_mk X G a18 l18 c18 k18) (def_mk X G a19 l19 c19 k19) (def_mk X G a20 l20 c20 k20) (def_mk X G a21 l21 c21 k21) (def_mk X G a22 l22 c22 k22) (def_mk X G a23 l23 c23 k23) (def_mk X G a24 l24 c24 k24) (def_mk X G a25 l25 c25 k25) (def_mk X G a26 l26 c26 k26) F27
theorem walk {l : PySem.W.OpenLaw} {q : Program} {loose : List Str} {XP : (Str → Option Value) → Heap → Prop} {YP : World → Heap → Prop} {d : DefRec} {K : Params → PySem.W.Frag} (hn : l.most = some 63) (hdf : d.params.defaults = [])
    (hY : ∀ (w : World) (h : Heap), YP w h → (K w.params).In h)
    (F : ∀ (w : World) (mg : Str → Option Value) (fa : Addr) (h : Heap), (K w.params).In h → h.Ns mainGlobals mg → mg d.name = some (.ref fa) →
      ∃ fd : FuncData, (∀ (s : Shared) (u : Value), BindsTo s fd ⟨[u], []⟩ [("_law_script", u)]) ∧ ∀ base : Heap, (K w.params).In base → base.Ns mainGlobals mg → FnOk l.prog w (K w.params) mg base CX0 7 fa fd ["_law_script"] (spLaw (K w.params))) :
    PySem.W.WalkO q loose XP YP l.row.toRowW d [] (fun f vs => PySem.call f vs) :=
  L2.walk_of (n := 63) (k := 7) (x := "_law_script") (CX := fun _ => CX0) (sp := fun w => spLaw (K w.params)) hn (by decide) hdf ⟨rfl, by decide, by decide⟩ hY F (fun _ _ a ns hl _ hS => ⟨a, ns, rfl, hS, hl, fun _ => rfl⟩) fun _ _ _ _ _ z => z
end Lf
open PySem PySem.W PyProof.Rows
set_option maxRecDepth 100000 in
set_option maxHeartbeats 0 in
theorem PySem.Challenge.cw_lastfords_k17_pairs_and_lots_holds : PySem.Challenge.rw_lastfords_k17_pairs_and_lots.Holds := by
  w_on; o_law; k_head; (case hw => w_witness2)
  k_fill
  refine Lf.walk (l := PySem.Challenge.rw_lastfords_k17_pairs_and_lots) rfl rfl (fun w h Y => PySem.W.kIn_of Y) ?F
  case F =>
    intro w mg fa h KX G hmg
    refine' Lf.all_mk KX G hmg ?a1 ?l1 ?c1 ?k1 ?a2 ?l2 ?c2 ?k2 ?a4 ?l4 ?c4 ?k4 ?a5 ?l5 ?c5 ?k5 ?a6 ?l6 ?c6 ?k6 ?a7 ?l7 ?c7 ?k7 ?a8 ?l8 ?c8 ?k8 ?a9 ?l9 ?c9 ?k9 ?a10 ?l10 ?c10 ?k10 ?a12 ?l12 ?c12 ?k12 ?a13 ?l13 ?c13 ?k13 ?a15 ?l15 ?c15 ?k15 ?a16 ?l16 ?c16 ?k16 ?a17 ?l17 ?c17 ?k17 ?a18 ?l18 ?c18 ?k18 ?a19 ?l19 ?c19 ?k19 ?a20 ?l20 ?c20 ?k20 ?a21 ?l21 ?c21 ?k21 ?a22 ?l22 ?c22 ?k22 ?a23 ?l23 ?c23 ?k23 ?a24 ?l24 ?c24 ?k24 ?a25 ?l25 ?c25 ?k25 ?a26 ?l26 ?c26 ?k26 ?a27 ?l27 ?c27 ?k27 ?z0 ?z1 ?z2 ?z3 ?z4 ?z5 ?z6 ?z7 ?z8 ?z9 ?z10 ?z11 ?z12 ?z13 ?z14
    (case a1 => k_is); (case l1 => k_is); (case c1 => k_is); (case k1 => k_is)
    (case a2 => k_is); (case l2 => k_is); (case c2 => k_is); (case k2 => k_is)
    (case a4 => k_is); (case l4 => k_is); (case c4 => k_is); (case k4 => k_is)
    (case a5 => k_is); (case l5 => k_is); (case c5 => k_is); (case k5 => k_is)
    (case a6 => k_is); (case l6 => k_is); (case c6 => k_is); (case k6 => k_is)
    (case a7 => k_is); (case l7 => k_is); (case c7 => k_is); (case k7 => k_is)
    (case a8 => k_is); (case l8 => k_is); (case c8 => k_is); (case k8 => k_is)
    (case a9 => k_is); (case l9 => k_is); (case c9 => k_is); (case k9 => k_is)
    (case a10 => k_is); (case l10 => k_is); (case c10 => k_is); (case k10 => k_is)
    (case a12 => k_is); (case l12 => k_is); (case c12 => k_is); (case k12 => k_is)
    (case a13 => k_is); (case l13 => k_is); (case c13 => k_is); (case k13 => k_is)
    (case a15 => k_is); (case l15 => k_is); (case c15 => k_is); (case k15 => k_is)
    (case a16 => k_is); (case l16 => k_is); (case c16 => k_is); (case k16 => k_is)
    (case a17 => k_is); (case l17 => k_is); (case c17 => k_is); (case k17 => k_is)
    (case a18 => k_is); (case l18 => k_is); (case c18 => k_is); (case k18 => k_is)
    (case a19 => k_is); (case l19 => k_is); (case c19 => k_is); (case k19 => k_is)
    (case a20 => k_is); (case l20 => k_is); (case c20 => k_is); (case k20 => k_is)
    (case a21 => k_is); (case l21 => k_is); (case c21 => k_is); (case k21 => k_is)
    (case a22 => k_is); (case l22 => k_is); (case c22 => k_is); (case k22 => k_is)
    (case a23 => k_is); (case l23 => k_is); (case c23 => k_is); (case k23 => k_is)
    (case a24 => k_is); (case l24 => k_is); (case c24 => k_is); (case k24 => k_is)
    (case a25 => k_is); (case l25 => k_is); (case c25 => k_is); (case k25 => k_is)
    (case a26 => k_is); (case l26 => k_is); (case c26 => k_is); (case k26 => k_is)
    (case a27 => k_is); (case l27 => k_is); (case c27 => k_is); (case k27 => k_is)
    (case z0 => k_is); (case z1 => k_is); (case z2 => k_is); (case z3 => k_is); (case z4 => k_is); (case z5 => k_is); (case z6 => k_is); (case z7 => k_is); (case z8 => k_is); (case z9 => k_is); (case z10 => k_is); (case z11 => k_is); (case z12 => k_is); (case z13 => k_is); (case z14 => k_is)
