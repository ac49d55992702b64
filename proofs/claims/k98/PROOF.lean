import PyProof.Rows.All
import Wide.All
import OpenK.AllK
import Wide.FinOn
import HandS.ForMost
import HandS.Deep
import HandS.IsInst
import HandS.StrMore
import HandS.Walk
import KE.LtData
import KE.SortData
import HandS.TupSets
import HandS.SetKeys
import KE.KSetAt
import HandS.Strs
import HandS.TryMany
import HandS.Wide
import HandS.TupAny
import HandS.TupLe
import HandS.TryOnly
import HandS.Zip
import HandS.ExcOwn
import HandS.WordsExc
import HandS.Defaults
import HandS.SortInts
import HandS.Star
import HandS.Style
import KE.DataMinMax
import HandS.SortKw
import HandS.Conv
import HandS.Flow
import PySem.Challenge.RW_lastfords_k98_whole_great_rows_one_behin
set_option Elab.async false
set_option linter.all false
set_option maxRecDepth 100000
set_option maxHeartbeats 4000000
namespace Lf
open PySem PySem.Spec PyProof.Rows L2

/-! ## heaps: all but one address -/
def hide (u : Addr) (H : Hp) : Hp := fun b => if b = u then none else H b
theorem hide_ne {u b : Addr} {H : Hp} (h : b ≠ u) : hide u H b = H b := if_neg h
theorem hide_at {u : Addr} {H : Hp} : hide u H u = none := if_pos rfl
theorem hide_sub {u : Addr} {H : Hp} : Same (hide u H) H := fun b o e => by
  unfold hide at e
  split at e
  · cases e
  · exact e
theorem hide_in {u b : Addr} {H : Hp} {o : HO} (h : b ≠ u) (e : H b = some o) : hide u H b = some o := (hide_ne h).trans e
theorem hide_mono {u : Addr} {H H' : Hp} (e : Same H H') : Same (hide u H) (hide u H') := fun b o q => by
  unfold hide at q ⊢
  split at q
  · cases q
  · rename_i h
    rw [if_neg h]
    exact e _ _ q
theorem hide_upd {u : Addr} {H : Hp} {o : HO} : hide u (upd H u o) = hide u H := by
  funext b
  unfold hide upd
  split <;> rfl
theorem same_new {H : Hp} {p : Addr} (h : H p = none) (o : HO) : Same H (upd H p o) := fun b u q => by
  rw [upd_ne (ne_of_none q h)]
  exact q
/-- an object that was made meanwhile is written: what stood at first is as it was -/
theorem same_upd {H H1 : Hp} {p : Addr} (e : Same H H1) (h : H p = none) (o : HO) : Same H (upd H1 p o) := fun b u q => by
  rw [upd_ne (ne_of_none q h)]
  exact e _ _ q
theorem same_seqT {K : PySem.W.Frag} {H H' : Hp} {a : Addr} {xs : List V} (e : Same H H') (h : SqT K H a xs) : SqT K H' a xs := by
  rcases h with (h | ⟨o, h⟩) | h
  · exact .inl (.inl (e _ _ h))
  · exact .inl (.inr ⟨o, e _ _ h⟩)
  · exact .inr h

/-! ## data that stand in the heap -/
mutual
inductive Dd (H : Hp) : V → PyData → Prop
  | non : Dd H .non .none
  | bl (b : Bool) : Dd H (.bl b) (.bool b)
  | int (i : Int) : Dd H (.int i) (.int i)
  | str (x : Str) : Dd H (.str x) (.str x)
  | lst {a : Addr} {xs : List V} {ds : List PyData} : H a = some (.lst xs) → DdAll H xs ds → Dd H (.ref a) (.list ds)
  | tup {a : Addr} {xs : List V} {ds : List PyData} : H a = some (.tup xs) → DdAll H xs ds → Dd H (.ref a) (.tuple ds)
inductive DdAll (H : Hp) : List V → List PyData → Prop
  | nil : DdAll H [] []
  | cons {v : V} {vs : List V} {d : PyData} {ds : List PyData} : Dd H v d → DdAll H vs ds → DdAll H (v :: vs) (d :: ds)
end
mutual
theorem Dd.mono {H H' : Hp} (e : Same H H') : ∀ {d : PyData} {v : V}, Dd H v d → Dd H' v d
  | .none, _, h => by cases h; exact .non
  | .bool _, _, h => by cases h; exact .bl _
  | .int _, _, h => by cases h; exact .int _
  | .str _, _, h => by cases h; exact .str _
  | .list ds, _, h => by
    cases h with
    | lst h1 h2 => exact .lst (e _ _ h1) (DdAll.mono e h2)
  | .tuple ds, _, h => by
    cases h with
    | tup h1 h2 => exact .tup (e _ _ h1) (DdAll.mono e h2)
  | .dict _, _, h => by cases h
theorem DdAll.mono {H H' : Hp} (e : Same H H') : ∀ {ds : List PyData} {vs : List V}, DdAll H vs ds → DdAll H' vs ds
  | [], _, h => by cases h; exact .nil
  | _ :: _, _, h => by
    cases h with
    | cons h1 h2 => exact .cons (Dd.mono e h1) (DdAll.mono e h2)
end
mutual
theorem Dd.dp {K : PySem.W.Frag} {H : Hp} : ∀ {d : PyData} {v : V}, Dd H v d → Dp K H v d
  | .none, _, h => by cases h; exact .non
  | .bool _, _, h => by cases h; exact .bl _
  | .int _, _, h => by cases h; exact .int _
  | .str _, _, h => by cases h; exact .str _
  | .list ds, _, h => by
    cases h with
    | lst h1 h2 => exact .lst (.of h1) (DdAll.dp h2)
  | .tuple ds, _, h => by
    cases h with
    | tup h1 h2 => exact .tup (.of h1) (DdAll.dp h2)
  | .dict _, _, h => by cases h
theorem DdAll.dp {K : PySem.W.Frag} {H : Hp} : ∀ {ds : List PyData} {vs : List V}, DdAll H vs ds → DpAll K H vs ds
  | [], _, h => by cases h; exact .nil
  | _ :: _, _, h => by
    cases h with
    | cons h1 h2 => exact .cons (Dd.dp h1) (DdAll.dp h2)
end
theorem DdAll.length {H : Hp} : ∀ {ds : List PyData} {vs : List V}, DdAll H vs ds → vs.length = ds.length
  | [], _, h => by cases h; rfl
  | _ :: _, _, h => by
    cases h with
    | cons h1 h2 => exact congrArg (· + 1) (DdAll.length h2)
theorem DdAll.get {H : Hp} : ∀ {ds : List PyData} {vs : List V} {i : Nat} {v : V}, DdAll H vs ds → vs[i]? = some v → ∃ d, ds[i]? = some d ∧ Dd H v d
  | [], _, i, v, h, e => by cases h; simp at e
  | d :: ds, _, 0, v, h, e => by
    cases h with
    | cons h1 h2 =>
      simp at e
      subst e
      exact ⟨d, rfl, h1⟩
  | d :: ds, _, i + 1, v, h, e => by
    cases h with
    | cons h1 h2 =>
      simp at e
      obtain ⟨d', q1, q2⟩ := DdAll.get h2 e
      exact ⟨d', by simpa using q1, q2⟩
theorem DdAll.get' {H : Hp} {ds : List PyData} {vs : List V} {i : Nat} {d : PyData} (h : DdAll H vs ds) (e : ds[i]? = some d) : ∃ v, vs[i]? = some v ∧ Dd H v d := by
  have hl := h.length
  obtain ⟨hi, _⟩ := List.getElem?_eq_some_iff.mp e
  have hv : vs[i]? = some vs[i] := List.getElem?_eq_getElem (by omega)
  obtain ⟨d', q1, q2⟩ := h.get hv
  rw [e] at q1
  cases q1
  exact ⟨_, hv, q2⟩
theorem DdAll.append {H : Hp} : ∀ {ds es : List PyData} {vs ws : List V}, DdAll H vs ds → DdAll H ws es → DdAll H (vs ++ ws) (ds ++ es)
  | [], _, _, _, h, k => by cases h; exact k
  | _ :: _, _, _, _, h, k => by
    cases h with
    | cons h1 h2 => exact .cons h1 (DdAll.append h2 k)
theorem DdAll.take {H : Hp} : ∀ {ds : List PyData} {vs : List V} (n : Nat), DdAll H vs ds → DdAll H (vs.take n) (ds.take n)
  | _, _, 0, _ => .nil
  | [], _, n + 1, h => by cases h; exact .nil
  | _ :: _, _, n + 1, h => by
    cases h with
    | cons h1 h2 => exact .cons h1 (DdAll.take n h2)
theorem DdAll.drop {H : Hp} : ∀ {ds : List PyData} {vs : List V} (n : Nat), DdAll H vs ds → DdAll H (vs.drop n) (ds.drop n)
  | _, _, 0, h => h
  | [], _, n + 1, h => by cases h; exact .nil
  | _ :: _, _, n + 1, h => by
    cases h with
    | cons h1 h2 => exact DdAll.drop n h2
theorem DdAll.of_mem {H : Hp} {vs : List V} (h : ∀ v ∈ vs, ∃ d, Dd H v d) : ∃ ds, DdAll H vs ds := by
  induction vs with
  | nil => exact ⟨[], .nil⟩
  | cons v vs ih =>
    obtain ⟨d, hd⟩ := h v List.mem_cons_self
    obtain ⟨ds, hds⟩ := ih fun w hw => h w (List.mem_cons_of_mem _ hw)
    exact ⟨d :: ds, .cons hd hds⟩

/-! ## data of bounded depth and size -/
def wf : Nat → PyData → Bool
  | _, .none => true
  | _, .bool _ => true
  | _, .int _ => true
  | _, .str x => PySem.PyData.canLay0 (.str x) && decide (x.length ≤ 1000)
  | n + 1, .list ds => decide (ds.length ≤ 1000) && ds.all (wf n)
  | n + 1, .tuple ds => decide (ds.length ≤ 1000) && ds.all (wf n)
  | _, _ => false
theorem wf_str {n : Nat} {x : Str} (h : wf n (.str x) = true) : PySem.PyData.canLay0 (.str x) = true ∧ x.length ≤ 1000 := by
  cases n <;> (simp only [wf, Bool.and_eq_true, decide_eq_true_eq] at h; exact h)
theorem wf_tuple {n : Nat} {ds : List PyData} (h : wf n (.tuple ds) = true) : ∃ m, n = m + 1 ∧ ds.length ≤ 1000 ∧ ∀ d ∈ ds, wf m d = true := by
  cases n with
  | zero => simp [wf] at h
  | succ m =>
    simp only [wf, Bool.and_eq_true, decide_eq_true_eq, List.all_eq_true] at h
    exact ⟨m, rfl, h.1, h.2⟩
theorem wf_list {n : Nat} {ds : List PyData} (h : wf n (.list ds) = true) : ∃ m, n = m + 1 ∧ ds.length ≤ 1000 ∧ ∀ d ∈ ds, wf m d = true := by
  cases n with
  | zero => simp [wf] at h
  | succ m =>
    simp only [wf, Bool.and_eq_true, decide_eq_true_eq, List.all_eq_true] at h
    exact ⟨m, rfl, h.1, h.2⟩
theorem depthAll_le {m : Nat} : ∀ {ds : List PyData}, (∀ d ∈ ds, d.depth ≤ m) → PyData.depthAll ds ≤ m
  | [], _ => by simp [PyData.depthAll]
  | d :: ds, h => by
    have h1 := h d List.mem_cons_self
    have h2 := depthAll_le (ds := ds) fun e he => h e (List.mem_cons_of_mem _ he)
    simp only [PyData.depthAll]
    omega
theorem layAll_of : ∀ {ds : List PyData}, (∀ d ∈ ds, d.canLay0 = true) → PyData.canLayAll0 ds = true
  | [], _ => by simp [PyData.canLayAll0]
  | d :: ds, h => by
    simp only [PyData.canLayAll0, Bool.and_eq_true]
    exact ⟨h d List.mem_cons_self, layAll_of fun e he => h e (List.mem_cons_of_mem _ he)⟩
theorem wf_lay : ∀ (n : Nat) (d : PyData), wf n d = true → d.canLay0 = true ∧ d.depth ≤ n
  | n, .none, _ => by simp [PyData.canLay0, PyData.depth]
  | n, .bool _, _ => by simp [PyData.canLay0, PyData.depth]
  | n, .int _, _ => by simp [PyData.canLay0, PyData.depth]
  | n, .str x, h => ⟨(wf_str h).1, by simp [PyData.depth]⟩
  | 0, .list _, h => by simp [wf] at h
  | 0, .tuple _, h => by simp [wf] at h
  | n + 1, .list ds, h => by
    obtain ⟨m, e, _, h2⟩ := wf_list h
    cases e
    have r : ∀ d ∈ ds, d.canLay0 = true ∧ d.depth ≤ n := fun d hd => wf_lay n d (h2 d hd)
    have q := depthAll_le fun d hd => (r d hd).2
    refine ⟨?_, ?_⟩
    · simp only [PyData.canLay0]
      exact layAll_of fun d hd => (r d hd).1
    · simp only [PyData.depth]
      omega
  | n + 1, .tuple ds, h => by
    obtain ⟨m, e, _, h2⟩ := wf_tuple h
    cases e
    have r : ∀ d ∈ ds, d.canLay0 = true ∧ d.depth ≤ n := fun d hd => wf_lay n d (h2 d hd)
    have q := depthAll_le fun d hd => (r d hd).2
    refine ⟨?_, ?_⟩
    · simp only [PyData.canLay0]
      exact layAll_of fun d hd => (r d hd).1
    · simp only [PyData.depth]
      omega
  | 0, .dict _, h => by simp [wf] at h
  | n + 1, .dict _, h => by simp [wf] at h
theorem wf_shaped {n : Nat} {d : PyData} (h : wf n d = true) (hn : n ≤ 60) : SeqAt.shaped d = true := by
  obtain ⟨h1, h2⟩ := wf_lay n d h
  show (d.canLay0 && decide (d.depth ≤ 64)) = true
  rw [Bool.and_eq_true]
  exact ⟨h1, decide_eq_true (by omega)⟩
theorem wf_mono : ∀ (n m : Nat) (d : PyData), n ≤ m → wf n d = true → wf m d = true
  | n, m, .none, _, _ => by cases m <;> rfl
  | n, m, .bool _, _, _ => by cases m <;> rfl
  | n, m, .int _, _, _ => by cases m <;> rfl
  | n, m, .str x, _, h => by
    obtain ⟨a, b⟩ := wf_str h
    cases m <;> simp only [wf, Bool.and_eq_true, decide_eq_true_eq] <;> exact ⟨a, b⟩
  | n, m, .list ds, hm, h => by
    obtain ⟨k, e, h1, h2⟩ := wf_list h
    cases m with
    | zero => omega
    | succ m =>
      simp only [wf, Bool.and_eq_true, decide_eq_true_eq, List.all_eq_true]
      exact ⟨h1, fun d hd => wf_mono k m d (by omega) (h2 d hd)⟩
  | n, m, .tuple ds, hm, h => by
    obtain ⟨k, e, h1, h2⟩ := wf_tuple h
    cases m with
    | zero => omega
    | succ m =>
      simp only [wf, Bool.and_eq_true, decide_eq_true_eq, List.all_eq_true]
      exact ⟨h1, fun d hd => wf_mono k m d (by omega) (h2 d hd)⟩
  | n, m, .dict _, _, h => by cases n <;> simp [wf] at h
termination_by n m d => n
decreasing_by all_goals omega

/-! ## the kind of a datum -/
def kindD : PyData → String
  | .none => "NoneType" | .bool _ => "bool" | .int _ => "int" | .str _ => "str" | .list _ => "list" | .tuple _ => "tuple" | .dict _ => "dict"
theorem Dd.ty {K : PySem.W.Frag} {H : Hp} {v : V} {d : PyData} (h : Dd H v d) : TyX K H v (.type (kindD d)) := by
  cases h with
  | non => exact .base .non
  | bl b => exact .base (.bl b)
  | int i => exact .base (.int i)
  | str x => exact .base (.str x)
  | lst h1 _ => exact .base (.lst h1)
  | tup h1 _ => exact .base (.tup h1)
def isTup : PyData → Bool | .tuple _ => true | _ => false
def isLst : PyData → Bool | .list _ => true | _ => false
def isStr : PyData → Bool | .str _ => true | _ => false
def isBl : PyData → Bool | .bool _ => true | _ => false
def isInt : PyData → Bool | .bool _ => true | .int _ => true | _ => false
def noDict : PyData → Bool | .dict _ => false | _ => true
theorem Dd.noDict {H : Hp} {v : V} {d : PyData} (h : Dd H v d) : noDict d = true := by cases h <;> rfl
theorem kit_tup {K : PySem.W.Frag} (d : PyData) : PySem.W.kitOne K (.type (kindD d)) (.type "tuple") = some (isTup d) := kit_ty (by cases d <;> (dsimp only [kindD, isTup]; decide +kernel))
theorem kit_lst {K : PySem.W.Frag} (d : PyData) : PySem.W.kitOne K (.type (kindD d)) (.type "list") = some (isLst d) := kit_ty (by cases d <;> (dsimp only [kindD, isLst]; decide +kernel))
theorem kit_str {K : PySem.W.Frag} (d : PyData) : PySem.W.kitOne K (.type (kindD d)) (.type "str") = some (isStr d) := kit_ty (by cases d <;> (dsimp only [kindD, isStr]; decide +kernel))
theorem kit_bl {K : PySem.W.Frag} (d : PyData) : PySem.W.kitOne K (.type (kindD d)) (.type "bool") = some (isBl d) := kit_ty (by cases d <;> (dsimp only [kindD, isBl]; decide +kernel))
theorem kit_int {K : PySem.W.Frag} (d : PyData) : PySem.W.kitOne K (.type (kindD d)) (.type "int") = some (isInt d) := kit_ty (by cases d <;> (dsimp only [kindD, isInt]; decide +kernel))

/-! ## operators on data -/
section
variable {X : Cx}
def rLtD (K : PySem.W.Frag) : R2 := fun x y H Q => ∃ d e, Dp K H x d ∧ Dp K H y e ∧ PySem.W.alike d e = true ∧ d ≠ .none ∧ d.depth ≤ 64 ∧ Q (.bl (PySem.W.dataLt d e)) H
theorem op_ltD (hu : X.A.units + 64 < cLine) : OpR X (compareOp .Lt) (rLtD X.K) := by
  intro pins s σ H x y v u Q I rx ry h
  obtain ⟨d, e, hd, he, al, hn, dep, q⟩ := h
  obtain ⟨as, r1⟩ := Dp.reads I d x v hd rx
  obtain ⟨bs, r2⟩ := Dp.reads I e y u he ry
  have R := PySem.W.rcLt_alike d e X.A s v u as bs r1 r2 al hn (by
    have := Nat.min_le_left d.depth e.depth
    omega)
  have z : wpAny (model X.prog X.w) X.A (compareOp .Lt v u) (EP X pins σ Q) X.xe s := R X.prog X.w X.xe (EP X pins σ Q) ⟨.bl _, H, I, rfl, q⟩
  exact z
def rNotInTD (K : PySem.W.Frag) : R2 := fun x y H Q => ∃ d ds, Dp K H x d ∧ Dp K H y (.tuple ds) ∧ SeqAt.shaped d = true ∧ SeqAt.shaped (.tuple ds) = true ∧ Q (.bl (!ds.any fun z => PyData.eqv z d)) H
theorem op_notInTD (hu : X.A.units + 65 < cLine) : OpR X (compareOp .NotIn) (rNotInTD X.K) := by
  intro pins s σ H x y v u Q I rx ry h
  obtain ⟨d, ds, hd, he, sd, se, q⟩ := h
  obtain ⟨as, r1⟩ := Dp.reads I d x v hd rx
  obtain ⟨bs, r2⟩ := Dp.reads I (.tuple ds) y u he ry
  exact SeqAt.notIn_tuple_reads r2 r1 (SeqAt.canLay_of_shaped se) (SeqAt.canLay_of_shaped sd) (room_in_shaped sd hu) ⟨.bl _, H, I, rfl, q⟩
end
theorem each_of {H : Hp} {K : PySem.W.Frag} {h : Heap} {F : V → PyData → Prop} {G : Value → PyData → Prop} (k : ∀ v d u, F v d → RelV v u → G u d) : ∀ {vs : List V} {ds : List PyData} {us : List Value},
    Paired F vs ds → Vals vs us → PySem.W.EachIs G us ds
  | [], _, _, h, r => by cases h; cases r; exact .nil
  | _ :: _, _, _, h, r => by
    cases h with
    | cons h1 h2 =>
      cases r with
      | cons r1 r2 => exact .cons (k _ _ _ h1 r1) (each_of (H := H) (K := K) (h := h) k h2 r2)
end Lf

set_option maxHeartbeats 4000000
namespace Lf
open PySem PySem.Spec PyProof.Rows L2
/-- what is walked is a list or a tuple -/
def iSeq (K : PySem.W.Frag) (tl : TE) : TI := fun σ H R => tl σ H fun x H1 => ∃ a, x = V.ref a ∧ (((∃ xs, SqL K H1 a xs) ∧ R (Itl K a) H1) ∨ ((∃ xs, SqT K H1 a xs) ∧ R (Itt K a) H1))
theorem pi_seq {X : Cx} {tg l : Expr} {tl : TE} (hl : PE X l tl) : PI X tg l (iSeq X.K tl) := ⟨fun pins s σ H R I h => by
  refine thn (hl.run pins s σ H _ I h) fun v s1 hx => ?_
  obtain ⟨x, H1, I1, r1, a, rfl, q⟩ := hx
  obtain rfl : v = Value.ref a := r1
  rcases q with ⟨⟨xs, hq⟩, q⟩ | ⟨⟨xs, hq⟩, q⟩
  · obtain ⟨its, rv, p, hz⟩ := I1.list hq
    refine wpAny_pyIter_list p.isList ⟨s1.heap.objs.size, [s1.heap.objs.size], _, Itl X.K a, H1, rfl, I1.kept fun b o e => Heap.get?_push_of_some _ e, turn_list a s1.heap.objs.size, ⟨_, Heap.get?_push_size _ rfl, rfl, rfl⟩, fun b hb => ?_, q⟩
    rw [List.mem_singleton.mp hb]
    exact I1.fpOk (Nat.le_refl _) (I1.hok.fresh (Nat.le_refl _))
  · obtain ⟨its, rv, p, hz⟩ := I1.tuple hq
    refine wpAny_pyIter_tuple p ⟨s1.heap.objs.size, [s1.heap.objs.size], _, Itt X.K a, H1, rfl, I1.kept fun b o e => Heap.get?_push_of_some _ e, turn_tuple a s1.heap.objs.size, ⟨_, Heap.get?_push_size _ rfl, rfl, rfl⟩, fun b hb => ?_, q⟩
    rw [List.mem_singleton.mp hb]
    exact I1.fpOk (Nat.le_refl _) (I1.hok.fresh (Nat.le_refl _))⟩
end Lf

set_option maxHeartbeats 4000000
namespace Lf
open PySem PySem.Spec PyProof.Rows L2

/-! ## sets of texts: added one by one -/
def keyS (e : Int × Value) : Str := match e.2 with | .str x _ => x | _ => ""
structure GoodS (w : World) (e : Int × Value) : Prop where
  ex : ∃ x tk, e.2 = Value.str x tk ∧ e.1 = hashStr w x
theorem GoodS.is {P : Program} {w : World} {e : Int × Value} (h : GoodS w e) (k : Str) : (strKind P w).is k e.2 = true ↔ keyS e = k := by
  obtain ⟨x, tk, e1, e2⟩ := h.ex
  unfold keyS
  rw [e1]
  show (Value.isStrOf k (.str x tk)) = true ↔ x = k
  simp only [Value.isStrOf]
  constructor
  · intro h
    exact (by simpa using h : _)
  · rintro rfl
    simp
theorem good_elemsS {P : Program} {w : World} {l : List (Int × Value)} (h : ∀ e ∈ l, GoodS w e) : ElemsOf (strKind P w) l := fun e he => by
  have g := h e he
  obtain ⟨x, tk, e1, e2⟩ := g.ex
  refine ⟨⟨x, ?_, e2⟩, ?_⟩
  · rw [g.is (P := P)]
    unfold keyS
    rw [e1]
  · rw [e1]
    rfl
structure SetS1 (w : World) (es : Array (Int × Value)) (t : SetTable) (l : List Str) : Prop where
  good : ∀ e ∈ es.toList, GoodS w e
  keys : (es.toList.map keyS).Perm l
  nd : l.Nodup
  few : l.length < scanBound
  fit : t.fits es.size = true
  ris : Ris t.place.toList
  led : w.params.followText "set-order" = true ∨ t.led = true
theorem SetS1.size {w : World} {es : Array (Int × Value)} {t : SetTable} {l : List Str} (h : SetS1 w es t l) : es.size = l.length := by
  rw [← h.keys.length_eq, List.length_map, Array.length_toList]
structure SetS (w : World) (h : Heap) (a : Addr) (l : List Str) : Prop where
  ex : ∃ o es ep t, h.get? a = some o ∧ o.ExactSet ∧ o.data = Data.set es ep t ∧ SetS1 w es t l
theorem SetS.at {w : World} {h h' : Heap} {a : Addr} {l : List Str} (g : SetS w h a l) (k : ∀ o, h.get? a = some o → h'.get? a = some o) : SetS w h' a l := by
  obtain ⟨o, es, ep, t, h1, h2, h3, h4⟩ := g.ex
  exact ⟨o, es, ep, t, k _ h1, h2, h3, h4⟩
theorem SetS1.perm {w : World} {es : Array (Int × Value)} {t : SetTable} {l l' : List Str} (h : SetS1 w es t l) (p : l.Perm l') : SetS1 w es t l' :=
  ⟨h.good, h.keys.trans p, p.nodup_iff.mp h.nd, by rw [← p.length_eq]; exact h.few, h.fit, h.ris, h.led⟩
theorem setS_tail {P : Program} {w : World} {A : Around} {E : Value → Shared → Prop} {s : Shared} {a : Addr} {g : Bool → Sem Unit}
    (hg : ∀ (b : Bool) (s₁ : Shared) (Q' : Unit → Shared → Prop), Q' () s₁ → wpAny (model P w) A (g b) Q' E s₁)
    {o : Obj} {es : Array (Int × Value)} {ep : Nat} {t : SetTable} (ho : s.heap.get? a = some o) (hx : o.ExactSet) (hd : o.data = Data.set es ep t)
    {es1 : Array (Int × Value)} {t2 : SetTable} {l : List Str} (h1 : SetS1 w es1 t2 l) {wasDummy : Bool} {R : Option Bool → Shared → Prop}
    (k : ∀ h', Heap.SameBut a s.heap h' → SetS w h' a l → R (some true) { heap := h', gens := s.gens, drawn := s.drawn, toks := s.toks, os := s.os }) :
    wpAny (model P w) A (do
      storeSet a es1 t2
      if (!wasDummy && t2.tooFull) = true then do
        g (relayAll t2 es1 (SetTable.grown es1.size)).snd.snd
        storeSet a (relayAll t2 es1 (SetTable.grown es1.size)).fst (relayAll t2 es1 (SetTable.grown es1.size)).snd.fst
        pure (some true)
      else pure (some true)) R E s := by
  have sz : es1.size < scanBound := by rw [h1.size]; exact h1.few
  refine wpAny_bind (wpAny_storeSet_of ho hd ?_ (fits_of_scanBound sz))
  have at1 := store_at (es' := es1) (t' := t2) ho hd
  have sb : Heap.SameBut a s.heap (s.heap.update a (Obj.putSet es1 t2)) := Heap.SameBut.update _ _ _
  by_cases c : (!wasDummy && t2.tooFull) = true
  · rw [if_pos c]
    have p := relayAll_perm t2 es1 (SetTable.grown es1.size)
    have f := relayAll_fits t2 es1 (SetTable.grown es1.size)
    have r := relayAll_ris t2 es1 (SetTable.grown es1.size)
    have ld := relayAll_led t2 es1 (SetTable.grown es1.size)
    generalize relayAll t2 es1 (SetTable.grown es1.size) = z at p f r ld ⊢
    obtain ⟨es3, t3, gv⟩ := z
    dsimp only at p f r ld ⊢
    have s3 : SetS1 w es3 t3 l := ⟨fun e he => h1.good e (p.mem_iff.mp he), (p.map keyS).trans h1.keys, h1.nd, h1.few, f, r, h1.led.imp id fun z => ld.trans z⟩
    have sz3 : es3.size < scanBound := by rw [s3.size]; exact h1.few
    refine wpAny_bind (hg _ _ _ (wpAny_bind (wpAny_storeSet_of at1 rfl (wpAny_pure (k _ (sb.trans (Heap.SameBut.update _ _ _)) ⟨_, _, _, _, store_at (es' := es3) (t' := t3) at1 rfl, ?_, rfl, s3⟩)) (fits_of_scanBound sz3))))
    exact ⟨hx.1, hx.2.1, hx.2.2⟩
  · rw [if_neg c]
    exact wpAny_pure (k _ sb ⟨_, _, _, _, at1, ⟨hx.1, hx.2.1, hx.2.2⟩, rfl, h1⟩)
theorem isS {P : Program} {w : World} (k : Str) (tk : Tok) : (PySem.strKind P w).is k (.str k tk) = true := by
  show (Value.isStrOf k (.str k tk)) = true
  simp [Value.isStrOf]
theorem gw_any {M : Model} {A : Around} {E : Value → Shared → Prop} (b : Bool) (s : Shared) (Q' : Unit → Shared → Prop) (h : Q' () s) :
    wpAny M A (match b with | true => rule "set.scan.the-table-gave-way" | false => pure ()) Q' E s := by
  cases b
  · exact wpAny_pure h
  · exact wpAny_rule h
theorem setS_add {P : Program} {w : World} {A : Around} {E : Value → Shared → Prop} {s : Shared} {a : Addr} {l : List Str} {k : Str} {tk : Tok} {Q : Bool → Shared → Prop}
    (h : SetS w s.heap a l) (hn : l.length + 1 < scanBound)
    (q : ∀ b h', Heap.SameBut a s.heap h' → SetS w h' a (if k ∈ l then l else k :: l) → Q b { heap := h', gens := s.gens, drawn := s.drawn, toks := s.toks, os := s.os }) :
    wpAny (model P w) A (setAddHashed a (.str k tk) (hashStr w k)) Q E s := by
  obtain ⟨o, es, ep, t, ho, hx, hd, g⟩ := h.ex
  have el := good_elemsS (P := P) g.good
  have sz : es.size < scanBound := by rw [g.size]; exact g.few
  refine wpAny_holding ?_
  show wpAny _ _ (setAddHashedIn a (.str k tk) (hashStr w k) (99999 + 1)) _ _ _
  rw [setAddHashedIn_succ]
  refine wpAny_bind (wpAny_setState_of ho hd g.fit ?_)
  dsimp only
  refine wp_if_pos (byScan_of (knd := strKind P w) rfl sz el) ?_
  refine wpAny_bind ?_
  unfold setAddByScan
  refine wpAny_bind (wpAny_rule (wpAny_bind ?_))
  refine wpAny_setScan_of (knd := strKind P w) (k := k) (x := .str k tk) (isS k tk) ho hd g.fit el ?_
  have mem : k ∈ l ↔ ∃ e ∈ es.toList, keyS e = k := by
    rw [← g.keys.mem_iff]
    simp only [List.mem_map]
  cases hf : List.findIdx? (fun e => (strKind P w).is k e.2) es.toList with
  | some j =>
    dsimp only
    have hm : k ∈ l := by
      rw [mem]
      obtain ⟨hj, hk, _⟩ := List.findIdx?_eq_some_iff_getElem.mp hf
      exact ⟨_, List.getElem_mem hj, ((g.good _ (List.getElem_mem hj)).is (P := P) k).mp hk⟩
    refine wpAny_pure (wpAny_pure (q _ _ (Heap.SameBut.refl _ _) ?_))
    rw [if_pos hm]
    exact ⟨o, es, ep, t, ho, hx, hd, g⟩
  | none =>
    dsimp only
    have hm : k ∉ l := by
      rw [mem]
      rintro ⟨e, he, hk⟩
      have z := List.findIdx?_eq_none_iff.mp hf e he
      rw [((g.good e he).is (P := P) k).mpr hk] at z
      cases z
    have p := layNew_perm t es (hashStr w k) (.str k tk)
    have f := layNew_fits t es (hashStr w k) (.str k tk)
    have r := layNew_ris t es (hashStr w k) (.str k tk) g.ris
    have ld := layNew_led t es (hashStr w k) (.str k tk)
    generalize layNew t es (hashStr w k) (.str k tk) = z at p f r ld ⊢
    obtain ⟨es1, t1, wd, gv⟩ := z
    dsimp only at p f r ld ⊢
    have p' : es1.toList.Perm ((hashStr w k, Value.str k tk) :: es.toList) := by
      refine p.trans ?_
      rw [Array.toList_push]
      exact List.perm_append_singleton _ _
    have g1 : ∀ t2, t2.fits es1.size = true → Ris t2.place.toList → t2.led = t1.led → SetS1 w es1 t2 (k :: l) := fun t2 f2 r2 l2 =>
      ⟨fun e he => by
        rcases List.mem_cons.mp (p'.mem_iff.mp he) with rfl | he
        · exact ⟨k, tk, rfl, rfl⟩
        · exact g.good e he, (p'.map keyS).trans (List.Perm.cons _ g.keys), List.nodup_cons.mpr ⟨hm, g.nd⟩, by rw [List.length_cons]; exact hn, f2, r2, g.led.imp id fun z => l2.trans (ld.trans z)⟩
    refine wpAny_bind (gw_any gv s _ ?_)
    by_cases pl : t1.plain = true
    · rw [if_pos pl, hashByValue_scannable (x := .str k tk) 8 rfl]
      have g2 := g1 { mask := t1.mask, place := t1.place, dummies := t1.dummies, finger := t1.finger, led := t1.led, moves := t1.moves, plain := false } (SetTable.fits_plain_off f) r rfl
      refine wpAny_bind (wpAny_pure ?_)
      rw [if_neg (show ¬ (plainKind (Value.str k tk) = true) from Bool.false_ne_true)]
      refine setS_tail (fun b s₁ Q' hq => gw_any b s₁ Q' hq) ho hx hd g2 fun h' sb gs => wpAny_pure (q _ _ sb ?_)
      rw [if_neg hm]
      exact gs
    · rw [if_neg pl]
      refine wpAny_bind (wpAny_pure ?_)
      rw [if_pos rfl]
      refine setS_tail (fun b s₁ Q' hq => gw_any b s₁ Q' hq) ho hx hd (g1 t1 f r rfl) fun h' sb gs => wpAny_pure (q _ _ sb ?_)
      rw [if_neg hm]
      exact gs
end Lf

set_option maxHeartbeats 4000000
namespace Lf
open PySem PySem.Spec PyProof.Rows L2
/-- set(things): one after another is added, what holds of the set being told by the one who calls -/
theorem set_update_by {P : Program} {w : World} {A : Around} {I : Addr} {fp wr : List Addr} {G : Array GenState → Array GenState → Prop} {n : Nat} {Pv : Nat → Value → Prop}
    {St : Nat → Shared → Prop} {R : Result → Shared → Prop} (hw : WalksS P w A.in1 I fp wr G n Pv St) (S : Addr) (hS : S ∉ fp) (Iv : Nat → Heap → Prop)
    (hk : ∀ i h h', Iv i h → (∀ b o, b ∉ wr → h.get? b = some o → h'.get? b = some o) → Iv i h')
    (step : ∀ i v (s : Shared) (E : Value → Shared → Prop) (Q : Bool → Shared → Prop), i < n → Pv i v → Iv i s.heap →
      (∀ b h' tk, s.toks ≤ tk → Heap.SameBut S s.heap h' → Iv (i + 1) h' → Q b { heap := h', gens := s.gens, drawn := s.drawn, toks := tk, os := s.os }) →
      wpAny (model P w) A.in1 (setAdd S v) Q E s) :
    ∀ (k i : Nat) (s : Shared), n - i = k → i ≤ n → St i s → Iv i s.heap →
      (∀ s', Moved (S :: wr) G s s' → Iv n s'.heap → R (Except.ok (Flow.ret Value.none)) s') →
      codeAny (model P w) A (Code.builtin "set.update.loop" { pos := [Value.ref S, Value.ref I] }) R s
  | 0, i, s, e, hi, st, iv, fin => by
    obtain rfl : i = n := by omega
    refine codeAny_builtin PyProof.Rows.F.entry_set_update_loop ?_
    rw [Around.under_plainId PyProof.Rows.F.plain_set_update_loop]
    unfold Builtin.«set.update.loop»
    dsimp only
    refine wpAny_bind (hw.done s _ _ st fun s' mv => ?_)
    dsimp only
    exact wpAny_pure (fin s' (mv.mono fun b hb => List.mem_cons_of_mem _ hb) (hk _ _ _ iv mv.heap))
  | k + 1, i, s, e, hi, st, iv, fin => by
    have hi' : i < n := by omega
    refine codeAny_builtin PyProof.Rows.F.entry_set_update_loop ?_
    rw [Around.under_plainId PyProof.Rows.F.plain_set_update_loop]
    unfold Builtin.«set.update.loop»
    dsimp only
    refine wpAny_bind (hw.item i s _ _ hi' st fun v s1 pv st1 mv => ?_)
    dsimp only
    refine wpAny_bind (wpAny_holding (step i v s1 _ _ hi' pv (hk _ _ _ iv mv.heap) fun b h' tk ht sb iv' => ?_))
    refine wpAny_pure ⟨plainId_quiet PyProof.Rows.F.plain_set_update_loop _, ?_⟩
    refine set_update_by hw S hS Iv hk step k (i + 1) _ (by omega) hi' (hw.frame (i + 1) s1 h' tk st1 ht fun b hb o ho => (sb.2 b fun z => hS (z ▸ hb)).trans ho) iv' fun s' mv' q => fin s' ?_ q
    refine Moved.trans hw.gtrans ((mv.mono fun b hb => List.mem_cons_of_mem _ hb).then_heap ht fun b o nb ho => ?_) mv'
    exact (sb.2 b fun z => nb (z ▸ List.mem_cons_self)).trans ho
end Lf

set_option maxHeartbeats 4000000
namespace Lf
open PySem PySem.Spec PyProof.Rows L2
abbrev setNew (w : World) : Obj := { cls := Value.type "set", data := Data.set #[] 0 (SetTable.fresh 0 0 !w.params.followText "set-order") }
theorem call_set_by {P : Program} {w : World} {A : Around} {E : Value → Shared → Prop} {s : Shared} {l : Addr} {T : String} {Q : Value → Shared → Prop}
    (hT0 : s.TypeIs (.ref l) T) (hs : isSubtype (.type T) (.type "set") = pure false) (hf : isSubtype (.type T) (.type "frozenset") = pure false) (hd : (Value.type T == Value.type "dict") = false)
    (hT1 : Shared.TypeIs { heap := s.heap.push (setNew w), gens := s.gens, drawn := s.drawn, toks := s.toks, os := s.os } (.ref l) T)
    (k : wpAny (model P w) A.in1.in1 (pyIter (.ref l)) (fun it s2 => wpAny (model P w) A.in1.in1 (runValue (Code.builtin "set.update.loop" { pos := [.ref s.heap.objs.size, it] })) (fun r s3 => Q (.ref s.heap.objs.size) s3) E s2) E
      { heap := s.heap.push (setNew w), gens := s.gens, drawn := s.drawn, toks := s.toks, os := s.os }) :
    wpAny (model P w) A (call (.type "set") [.ref l]) Q E s := by
  obtain ⟨c, tl, hmro⟩ := F.called_set.mro
  have hmade := F.called_set.made
  have hsub := F.called_set.sub
  have hct := F.typeCall_set_1 (Value.ref l)
  refine wpAny_call (codeAny_of_tree ?_)
  refine wpAny_pure ⟨Code.quiet_builtin _ (by decide +kernel), codeAny_builtin F.entry_type_call ?_⟩
  rw [show Around.under A (Code.builtin "type.__call__" { pos := Value.type "set" :: ({ pos := [Value.ref l] } : Args).pos }) = A.in1 from Around.under_plain (weight_type_call_type "set" [.ref l] []) rfl]
  unfold Builtin.«type.__call__»
  dsimp only
  refine wpAny_ite_false (by decide +kernel) (wpAny_ite_false (by decide +kernel) (wpAny_bind (wpAny_of_eq hct ?_)))
  refine wpAny_bind (wpAny_of_eq hmro ?_)
  refine wpAny_ite_false rfl ?_
  refine wpAny_bind (wpAny_of_eq hmade ?_)
  dsimp only
  refine wpAny_bind (wpAny_pure (wpAny_bind (wpAny_holding (wpAny_call (codeAny_mono (code_set_led1 (E := E) (.ref l) (Q₁ := fun v s₁ => v = .ref s.heap.objs.size ∧ s₁ = { heap := s.heap.push (setNew w), gens := s.gens, drawn := s.drawn, toks := s.toks, os := s.os }) ⟨rfl, rfl⟩) (fun (r : Result) s₁ (hr : wants _ E r s₁) => ?_))))))
  rcases r with e | f
  · exact hr
  · cases f with
    | ret v =>
      obtain ⟨rfl, rfl⟩ := hr
      dsimp only
      have hS : (s.heap.push (setNew w)).get? s.heap.objs.size = some (setNew w) := Heap.get?_push_size _ rfl
      have hT : Shared.TypeIs { heap := s.heap.push (setNew w), gens := s.gens, drawn := s.drawn, toks := s.toks, os := s.os } (.ref s.heap.objs.size) "set" := ⟨_, hS, rfl⟩
      refine wpAny_bind (wpAny_isInstance hT hsub (wpAny_ite_false (by decide +kernel) (wpAny_bind (wpAny_holding ?_))))
      refine wpAny_callSpecial?_slot hT F.called_set.init ?_
      refine wpAny_call (codeAny_call_builtin F.called_set.init.plain F.entry_set_init (check_set_init_1 hT ?_))
      unfold Builtin.«set.__init__»
      dsimp only
      refine wpAny_bind (wpAny_ite_true rfl (wpAny_pure ?_))
      refine wpAny_bind ?_
      unfold typeNameOfCut
      refine wpAny_bind ?_
      unfold shownTypeOf
      refine wpAny_bind (wpAny_typeOf hT ?_)
      refine wpAny_ite_false (by decide +kernel) (wpAny_pure ?_)
      unfold typeNameCut
      dsimp only
      unfold typeName
      dsimp only
      refine wpAny_pure (wpAny_bind ?_)
      unfold checkCount
      refine wpAny_ite_false rfl (wpAny_ite_false rfl (wpAny_ite_false rfl (wpAny_pure ?_)))
      refine wpAny_bind (wpAny_pure ?_)
      refine wpAny_bind ?_
      unfold setUsed
      refine wpAny_bind (wpAny_setState_of hS rfl rfl (wpAny_pure ?_))
      refine wpAny_ite_false rfl ?_
      refine wpAny_bind ?_
      unfold Builtin.Frozenset.updateFrom
      refine wpAny_bind ?_
      unfold Builtin.Frozenset.isAnySet orM
      refine wpAny_bind (wpAny_isInstance hT1 hs ?_)
      dsimp only
      refine wpAny_isInstance hT1 hf ?_
      refine wpAny_ite_false rfl (wpAny_bind (wpAny_typeOf hT1 ?_))
      rw [if_neg (by rw [hd]; exact Bool.false_ne_true)]
      refine wpAny_bind (wpAny_mono k (fun it s2 h2 => wpAny_bind (wpAny_mono h2 (fun r s3 h3 => ?_) fun _ _ h => h)) fun _ _ h => h)
      refine wpAny_pure (wpAny_pure ?_)
      dsimp only
      exact wpAny_ite_false rfl (wpAny_pure h3)
    | _ => exact hr
/-- set(list): what holds of the set is told by the one who calls -/
theorem set_list_by {P : Program} {w : World} {A : Around} {E : Value → Shared → Prop} {s : Shared} {l : Addr} {items : Array Value} {Q : Value → Shared → Prop}
    (hA : A.handled = none) (hl : s.heap.IsList l items) (Iv : Nat → Heap → Prop)
    (hk : ∀ i h h', Iv i h → (∀ b o, b ≠ s.heap.objs.size + 1 → h.get? b = some o → h'.get? b = some o) → Iv i h')
    (h0 : Iv 0 (s.heap.push (setNew w)))
    (step : ∀ i v (s1 : Shared) (E' : Value → Shared → Prop) (Q' : Bool → Shared → Prop), items[i]? = some v → Iv i s1.heap →
      (∀ b h' tk, s1.toks ≤ tk → Heap.SameBut s.heap.objs.size s1.heap h' → Iv (i + 1) h' → Q' b { heap := h', gens := s1.gens, drawn := s1.drawn, toks := tk, os := s1.os }) →
      wpAny (model P w) A.in1.in1.in1 (setAdd s.heap.objs.size v) Q' E' s1)
    (fin : ∀ h' tk, s.toks ≤ tk → (∀ b o, s.heap.get? b = some o → h'.get? b = some o) → Iv items.size h' → Q (.ref s.heap.objs.size) { heap := h', gens := s.gens, drawn := s.drawn, toks := tk, os := s.os }) :
    wpAny (model P w) A (call (.type "set") [.ref l]) Q E s := by
  have hl0 := hl
  obtain ⟨o, ho, hc, n, hd⟩ := hl
  have lt : l < s.heap.objs.size := Heap.lt_size ho
  refine call_set_by ⟨o, ho, hc⟩ F.sub_list_set F.sub_list_frozenset (by decide +kernel) ⟨o, Heap.get?_push_of_some _ ho, hc⟩ ?_
  refine wpAny_pyIter_list (hl0.push _) ?_
  dsimp only
  have sz : (s.heap.push (setNew w)).objs.size = s.heap.objs.size + 1 := Heap.size_push _ _
  rw [sz]
  refine wpAny_runValue ?_
  have ne : l ≠ s.heap.objs.size + 1 := Nat.ne_of_lt (Nat.lt_succ_of_lt lt)
  have W := Walks.toS (Walks.list (prog := P) (w := w) (A := A.in1.in1.in1) hA (s.heap.objs.size + 1) l ne items)
  refine set_update_by W s.heap.objs.size ?_ Iv ?_ ?_ items.size 0 _ (by omega) (Nat.zero_le _) ?_ ?_ ?_
  · intro m
    rcases List.mem_cons.mp m with h | h
    · exact absurd h (Nat.ne_of_lt (Nat.lt_succ_self _))
    · rcases List.mem_cons.mp h with h | h
      · exact absurd h (Nat.ne_of_gt lt)
      · cases h
  · intro i h h' iv k
    exact hk i h h' iv fun b o nb => k b o fun z => nb (List.mem_singleton.mp z)
  · exact fun i v s1 E' Q' _ pv iv q => step i v s1 E' Q' pv iv q
  · refine ⟨⟨{ cls := Value.type "list_iterator", data := Data.fields #[Value.ref l, Value.int 0 0] }, ?_, rfl, rfl⟩, (hl0.push _).push _⟩
    show ((s.heap.push (setNew w)).push _).get? (s.heap.objs.size + 1) = _
    rw [← sz]
    exact Heap.get?_push_size _ rfl
  · refine hk 0 _ _ h0 fun b o _ e => Heap.get?_push_of_some _ e
  · intro s' mv iv
    obtain ⟨h', g', d', t', os'⟩ := s'
    obtain ⟨m1, m2, m3, m4, m5⟩ := mv
    dsimp only at m1 m2 m3 m4 m5 iv ⊢
    subst m2 m3 m4
    refine fin h' t' m5 (fun b o' e => m1 b o' (fun m => ?_) (Heap.get?_push_of_some _ (Heap.get?_push_of_some _ e))) iv
    have lb : b < s.heap.objs.size := Heap.lt_size e
    rcases List.mem_cons.mp m with h | h
    · exact absurd h (Nat.ne_of_lt lb)
    · exact absurd (List.mem_singleton.mp h) (Nat.ne_of_lt (Nat.lt_succ_of_lt lb))
theorem set_tuple_by {P : Program} {w : World} {A : Around} {E : Value → Shared → Prop} {s : Shared} {l : Addr} {items : Array Value} {Q : Value → Shared → Prop}
    (hA : A.handled = none) (hl : s.heap.IsTuple l items) (Iv : Nat → Heap → Prop)
    (hk : ∀ i h h', Iv i h → (∀ b o, b ≠ s.heap.objs.size + 1 → h.get? b = some o → h'.get? b = some o) → Iv i h')
    (h0 : Iv 0 (s.heap.push (setNew w)))
    (step : ∀ i v (s1 : Shared) (E' : Value → Shared → Prop) (Q' : Bool → Shared → Prop), items[i]? = some v → Iv i s1.heap →
      (∀ b h' tk, s1.toks ≤ tk → Heap.SameBut s.heap.objs.size s1.heap h' → Iv (i + 1) h' → Q' b { heap := h', gens := s1.gens, drawn := s1.drawn, toks := tk, os := s1.os }) →
      wpAny (model P w) A.in1.in1.in1 (setAdd s.heap.objs.size v) Q' E' s1)
    (fin : ∀ h' tk, s.toks ≤ tk → (∀ b o, s.heap.get? b = some o → h'.get? b = some o) → Iv items.size h' → Q (.ref s.heap.objs.size) { heap := h', gens := s.gens, drawn := s.drawn, toks := tk, os := s.os }) :
    wpAny (model P w) A (call (.type "set") [.ref l]) Q E s := by
  have hl0 := hl
  obtain ⟨o, ho, hc, n, hd⟩ := hl
  have lt : l < s.heap.objs.size := Heap.lt_size ho
  have up : (s.heap.push (setNew w)).IsTuple l items := ⟨o, Heap.get?_push_of_some _ ho, hc, n, hd⟩
  refine call_set_by ⟨o, ho, hc⟩ F.sub_tuple_set F.sub_tuple_frozenset (by decide +kernel) ⟨o, Heap.get?_push_of_some _ ho, hc⟩ ?_
  refine wpAny_pyIter_tuple up ?_
  dsimp only
  have sz : (s.heap.push (setNew w)).objs.size = s.heap.objs.size + 1 := Heap.size_push _ _
  rw [sz]
  refine wpAny_runValue ?_
  have ne : l ≠ s.heap.objs.size + 1 := Nat.ne_of_lt (Nat.lt_succ_of_lt lt)
  have W := Walks.toS (Walks.tuple (prog := P) (w := w) (A := A.in1.in1.in1) hA (s.heap.objs.size + 1) l ne items)
  refine set_update_by W s.heap.objs.size ?_ Iv ?_ ?_ items.size 0 _ (by omega) (Nat.zero_le _) ?_ ?_ ?_
  · intro m
    rcases List.mem_cons.mp m with h | h
    · exact absurd h (Nat.ne_of_lt (Nat.lt_succ_self _))
    · rcases List.mem_cons.mp h with h | h
      · exact absurd h (Nat.ne_of_gt lt)
      · cases h
  · intro i h h' iv k
    exact hk i h h' iv fun b o nb => k b o fun z => nb (List.mem_singleton.mp z)
  · exact fun i v s1 E' Q' _ pv iv q => step i v s1 E' Q' pv iv q
  · refine ⟨⟨{ cls := Value.type "tuple_iterator", data := Data.fields #[Value.ref l, Value.int 0 0] }, ?_, rfl, rfl⟩, ⟨o, Heap.get?_push_of_some _ (Heap.get?_push_of_some _ ho), hc, n, hd⟩⟩
    show ((s.heap.push (setNew w)).push _).get? (s.heap.objs.size + 1) = _
    rw [← sz]
    exact Heap.get?_push_size _ rfl
  · refine hk 0 _ _ h0 fun b o _ e => Heap.get?_push_of_some _ e
  · intro s' mv iv
    obtain ⟨h', g', d', t', os'⟩ := s'
    obtain ⟨m1, m2, m3, m4, m5⟩ := mv
    dsimp only at m1 m2 m3 m4 m5 iv ⊢
    subst m2 m3 m4
    refine fin h' t' m5 (fun b o' e => m1 b o' (fun m => ?_) (Heap.get?_push_of_some _ (Heap.get?_push_of_some _ e))) iv
    have lb : b < s.heap.objs.size := Heap.lt_size e
    rcases List.mem_cons.mp m with h | h
    · exact absurd h (Nat.ne_of_lt lb)
    · exact absurd (List.mem_singleton.mp h) (Nat.ne_of_lt (Nat.lt_succ_of_lt lb))
end Lf

set_option maxHeartbeats 4000000
namespace Lf
open PySem PySem.Spec PyProof.Rows L2
def SetSO (w : World) (a : Addr) (l : List Str) : HO := .ext fun h => SetS w h a l
theorem setS_new {P : Program} {w : World} {H : Hp} {h : Heap} {a : Addr} {l : List Str} (g : SetS w h a l) : ObjOk P w H h a (SetSO w a l) := by
  refine ⟨g, ?_, fun h1 h2 g1 k => g1.at k⟩
  obtain ⟨o, es, ep, t, h1, _⟩ := g.ex
  exact ⟨o, h1⟩
theorem setS_get {X : Cx} {pins : List (Addr × Obj)} {σ : L2.St} {H : Hp} {s : Shared} {a : Addr} {l : List Str} (I : L2.Inv X pins σ H s) (e : H a = some (SetSO X.w a l)) : SetS X.w s.heap a l :=
  (I.hok _ _ e).1
theorem setS_fresh {w : World} {h : Heap} {a : Addr} (e : h.get? a = some (setNew w)) : SetS w h a [] :=
  ⟨_, _, _, _, e, ⟨rfl, rfl, rfl⟩, rfl, ⟨fun e he => (nomatch he), List.Perm.refl _, List.nodup_nil, by decide, rfl, List.Pairwise.nil, by
    cases w.params.followText "set-order"
    · exact .inr rfl
    · exact .inl rfl⟩⟩
theorem SetS.perm {w : World} {h : Heap} {a : Addr} {l l' : List Str} (g : SetS w h a l) (p : l.Perm l') : SetS w h a l' := by
  obtain ⟨o, es, ep, t, h1, h2, h3, h4⟩ := g.ex
  exact ⟨o, es, ep, t, h1, h2, h3, h4.perm p⟩
theorem SetS.nd {w : World} {h : Heap} {a : Addr} {l : List Str} (g : SetS w h a l) : l.Nodup := by
  obtain ⟨o, es, ep, t, h1, h2, h3, h4⟩ := g.ex
  exact h4.nd
/-- what stands in the set after so many of the texts -/
def IvS (w : World) (S : Addr) (ss : List Str) (i : Nat) (h : Heap) : Prop := ∃ ts, SetS w h S ts ∧ ts.length ≤ i ∧ ∀ x, x ∈ ts ↔ x ∈ ss.take i
theorem ivS_step {P : Program} {w : World} {A : Around} {S : Addr} {ss : List Str} {i : Nat} {x : Str} {tk : Tok} (hi : ss[i]? = some x) (hn : ss.length + 1 < scanBound)
    {s1 : Shared} {E' : Value → Shared → Prop} {Q' : Bool → Shared → Prop} (iv : IvS w S ss i s1.heap)
    (q : ∀ b h' tk, s1.toks ≤ tk → Heap.SameBut S s1.heap h' → IvS w S ss (i + 1) h' → Q' b { heap := h', gens := s1.gens, drawn := s1.drawn, toks := tk, os := s1.os }) :
    wpAny (model P w) A (setAdd S (.str x tk)) Q' E' s1 := by
  obtain ⟨ts, g, hl, hm⟩ := iv
  have hlt : i < ss.length := (List.getElem?_eq_some_iff.mp hi).1
  refine wpAny_holding (wpAny_bind (wpAny_pyHash_str ?_))
  refine setS_add (l := ts) g (by omega) fun b h' sb g' => q b h' (s1.toks + 1) (Nat.le_succ _) sb ⟨_, g', ?_, fun y => ?_⟩
  · split
    · omega
    · rw [List.length_cons]; omega
  · rw [L2.take_next hi, List.mem_append, List.mem_singleton, ← hm y]
    split
    · rename_i hx
      constructor
      · exact .inl
      · rintro (h | rfl)
        · exact h
        · exact hx
    · rw [List.mem_cons]
      exact Or.comm
section
variable {X : Cx}
def rSetOfS (K : PySem.W.Frag) (w : World) : List V → Hp → VK → Prop := fun xs H Q => ∃ (l : Addr) (ss : List Str), xs = [V.ref l] ∧ (SqL K H l (ss.map V.str) ∨ SqT K H l (ss.map V.str)) ∧ ss.length + 1 < scanBound ∧
  ∀ (a : Addr) (ts : List Str), H a = none → ts.Nodup → (∀ x, x ∈ ts ↔ x ∈ ss) → Q (.ref a) (upd H a (SetSO w a ts))
theorem valsStrAt : ∀ {ss : List Str} {us : List Value}, Vals (ss.map V.str) us → ∀ (i : Nat) (v : Value), us[i]? = some v → ∃ x tk, ss[i]? = some x ∧ v = Value.str x tk
  | [], us, h, i, v, e => by
    cases h
    cases e
  | x :: ss, us, h, i, v, e => by
    cases h with
    | cons r t =>
      cases i with
      | zero =>
        obtain ⟨tk, rfl⟩ := r
        cases e
        exact ⟨x, tk, rfl, rfl⟩
      | succ i => exact valsStrAt t i v e
theorem cr_setOfS (hc : X.calm = true) : CallR X (.type "set") (rSetOfS X.K X.w) := by
  intro pins s σ H xs us Q I r h
  obtain ⟨l, ss, rfl, hs, hn, q⟩ := h
  obtain ⟨u, rfl, ru⟩ := vals1 r
  obtain rfl : u = Value.ref l := ru
  have hA := I.ok.hd hc
  have fin : ∀ (n : Nat), n = ss.length → ∀ h' tk, s.toks ≤ tk → (∀ b o, s.heap.get? b = some o → h'.get? b = some o) → IvS X.w s.heap.objs.size ss n h' → EP X pins σ Q (.ref s.heap.objs.size) { heap := h', gens := s.gens, drawn := s.drawn, toks := tk, os := s.os } := by
    rintro n rfl h' tk ht ho ⟨ts, g, _, hm⟩
    rw [List.take_length] at hm
    exact ⟨.ref _, upd H s.heap.objs.size (SetSO X.w s.heap.objs.size ts), I.laid ho (Nat.le_refl _) (setS_new g), rfl, q _ ts (I.hok.fresh (Nat.le_refl _)) g.nd hm⟩
  have hk : ∀ i h h', IvS X.w s.heap.objs.size ss i h → (∀ b o, b ≠ s.heap.objs.size + 1 → h.get? b = some o → h'.get? b = some o) → IvS X.w s.heap.objs.size ss i h' := by
    rintro i h h' ⟨ts, g, k1, k2⟩ k
    exact ⟨ts, g.at fun o e => k _ o (Nat.ne_of_lt (Nat.lt_succ_self _)) e, k1, k2⟩
  have h0 : IvS X.w s.heap.objs.size ss 0 (s.heap.push (setNew X.w)) := ⟨[], setS_fresh (Heap.get?_push_size _ rfl), Nat.le_refl _, fun x => Iff.rfl⟩
  rcases hs with hs | hs
  · obtain ⟨its, rv, hl, hz⟩ := I.list hs
    have e : its.length = ss.length := by
      have := rv.length
      rw [List.length_map] at this
      exact this.symm
    refine set_list_by hA hl.isList (IvS X.w s.heap.objs.size ss) hk h0 (fun i v s1 E' Q' hi iv q' => ?_) (fin _ e)
    obtain ⟨x, tk, hx, rfl⟩ := valsStrAt rv i v (by simpa using hi)
    exact ivS_step hx hn iv q'
  · obtain ⟨its, rv, hl, hz⟩ := I.tuple hs
    have e : its.length = ss.length := by
      have := rv.length
      rw [List.length_map] at this
      exact this.symm
    refine set_tuple_by hA hl (IvS X.w s.heap.objs.size ss) hk h0 (fun i v s1 E' Q' hi iv q' => ?_) (fin _ e)
    obtain ⟨x, tk, hx, rfl⟩ := valsStrAt rv i v (by simpa using hi)
    exact ivS_step hx hn iv q'
end
end Lf

set_option maxHeartbeats 4000000
namespace Lf
open PySem PySem.Spec PyProof.Rows L2
def IvI (w : World) (S : Addr) (ns : List Int) (i : Nat) (h : Heap) : Prop := ∃ T n, SetR w h S T n ∧ n ≤ i ∧ ∀ k, T k = true ↔ k ∈ ns.take i
theorem ivI_step {P : Program} {w : World} {A : Around} {S : Addr} {ns : List Int} {i : Nat} {x : Int} {tk : Tok} (hi : ns[i]? = some x) (hn : ns.length + 1 < scanBound)
    {s1 : Shared} {E' : Value → Shared → Prop} {Q' : Bool → Shared → Prop} (iv : IvI w S ns i s1.heap)
    (q : ∀ b h' tk, s1.toks ≤ tk → Heap.SameBut S s1.heap h' → IvI w S ns (i + 1) h' → Q' b { heap := h', gens := s1.gens, drawn := s1.drawn, toks := tk, os := s1.os }) :
    wpAny (model P w) A (setAdd S (.int x tk)) Q' E' s1 := by
  obtain ⟨T, n, g, hl, hm⟩ := iv
  have hlt : i < ns.length := (List.getElem?_eq_some_iff.mp hi).1
  unfold setAdd
  refine wpAny_holding (wpAny_bind (wpAny_pyHash_int ?_))
  refine setR_add_hashed g (by omega) fun h' sb g' => q _ h' (s1.toks + 1) (Nat.le_succ _) sb ⟨_, _, g', ?_, fun y => ?_⟩
  · split <;> omega
  · rw [L2.take_next hi, List.mem_append, List.mem_singleton, ← hm y, Bool.or_eq_true, decide_eq_true_eq]
section
variable {X : Cx}
def rSetOfI (K : PySem.W.Frag) (w : World) : List V → Hp → VK → Prop := fun xs H Q => ∃ (l : Addr) (ns : List Int), xs = [V.ref l] ∧ (SqL K H l (ns.map V.int) ∨ SqT K H l (ns.map V.int)) ∧ ns.length + 1 < scanBound ∧
  ∀ (a : Addr) (T : Int → Bool) (n : Nat), H a = none → n ≤ ns.length → (∀ k, T k = true ↔ k ∈ ns) → Q (.ref a) (upd H a (SetO w a T n))
theorem valsIntAt : ∀ {ns : List Int} {us : List Value}, Vals (ns.map V.int) us → ∀ (i : Nat) (v : Value), us[i]? = some v → ∃ x tk, ns[i]? = some x ∧ v = Value.int x tk
  | [], us, h, i, v, e => by
    cases h
    cases e
  | x :: ns, us, h, i, v, e => by
    cases h with
    | cons r t =>
      cases i with
      | zero =>
        obtain ⟨tk, rfl⟩ := r
        cases e
        exact ⟨x, tk, rfl, rfl⟩
      | succ i => exact valsIntAt t i v e
theorem cr_setOfI (hc : X.calm = true) : CallR X (.type "set") (rSetOfI X.K X.w) := by
  intro pins s σ H xs us Q I r h
  obtain ⟨l, ns, rfl, hs, hn, q⟩ := h
  obtain ⟨u, rfl, ru⟩ := vals1 r
  obtain rfl : u = Value.ref l := ru
  have hA := I.ok.hd hc
  have fin : ∀ (m : Nat), m = ns.length → ∀ h' tk, s.toks ≤ tk → (∀ b o, s.heap.get? b = some o → h'.get? b = some o) → IvI X.w s.heap.objs.size ns m h' → EP X pins σ Q (.ref s.heap.objs.size) { heap := h', gens := s.gens, drawn := s.drawn, toks := tk, os := s.os } := by
    rintro m rfl h' tk ht ho ⟨T, n, g, hnl, hm⟩
    rw [List.take_length] at hm
    exact ⟨.ref _, upd H s.heap.objs.size (SetO X.w s.heap.objs.size T n), I.laid ho (Nat.le_refl _) (setO_new g), rfl, q _ T n (I.hok.fresh (Nat.le_refl _)) hnl hm⟩
  have hk : ∀ i h h', IvI X.w s.heap.objs.size ns i h → (∀ b o, b ≠ s.heap.objs.size + 1 → h.get? b = some o → h'.get? b = some o) → IvI X.w s.heap.objs.size ns i h' := by
    rintro i h h' ⟨T, n, g, k1, k2⟩ k
    exact ⟨T, n, g.at fun o e => k _ o (Nat.ne_of_lt (Nat.lt_succ_self _)) e, k1, k2⟩
  have h0 : IvI X.w s.heap.objs.size ns 0 (s.heap.push (setNew X.w)) := ⟨fun _ => false, 0, setR_fresh X.w, Nat.le_refl _, fun x => by simp⟩
  rcases hs with hs | hs
  · obtain ⟨its, rv, hl, hz⟩ := I.list hs
    have e : its.length = ns.length := by
      have := rv.length
      rw [List.length_map] at this
      exact this.symm
    refine set_list_by hA hl.isList (IvI X.w s.heap.objs.size ns) hk h0 (fun i v s1 E' Q' hi iv q' => ?_) (fin _ e)
    obtain ⟨x, tk, hx, rfl⟩ := valsIntAt rv i v (by simpa using hi)
    exact ivI_step hx hn iv q'
  · obtain ⟨its, rv, hl, hz⟩ := I.tuple hs
    have e : its.length = ns.length := by
      have := rv.length
      rw [List.length_map] at this
      exact this.symm
    refine set_tuple_by hA hl (IvI X.w s.heap.objs.size ns) hk h0 (fun i v s1 E' Q' hi iv q' => ?_) (fin _ e)
    obtain ⟨x, tk, hx, rfl⟩ := valsIntAt rv i v (by simpa using hi)
    exact ivI_step hx hn iv q'
end
end Lf

set_option maxHeartbeats 4000000
namespace Sm
open PySem PySem.Spec PyProof.Rows L2 Lf

/-! ## data in the heap, with dicts and instances -/
abbrev CM := Str → Addr → Prop
def kD : Key → PyData
  | .inl i => .int i
  | .inr x => .str x
mutual
inductive Dv (cm : CM) (H : Hp) : V → PyData → Prop
  | non : Dv cm H .non .none
  | bl (b : Bool) : Dv cm H (.bl b) (.bool b)
  | int (i : Int) : Dv cm H (.int i) (.int i)
  | str (x : Str) : Dv cm H (.str x) (.str x)
  | lst {a : Addr} {xs : List V} {ds : List PyData} : H a = some (.lst xs) → DvA cm H xs ds → Dv cm H (.ref a) (.list ds)
  | tup {a : Addr} {xs : List V} {ds : List PyData} : H a = some (.tup xs) → DvA cm H xs ds → Dv cm H (.ref a) (.tuple ds)
  | dK {a : Addr} {kvs : List (Key × V)} {ps : List (PyData × PyData)} : H a = some (.dK kvs) → (kvs.map (·.1)).Nodup → DvK cm H kvs ps → Dv cm H (.ref a) (.dict ps)
  | dT {a : Addr} {kvs : List (List Key × V)} {ps : List (PyData × PyData)} : H a = some (.dT kvs) → (kvs.map (·.1)).Nodup → DvT cm H kvs ps → Dv cm H (.ref a) (.dict ps)
  | ins {a C dx : Addr} {c : Str} {fs : List (Str × V)} {ps : List (PyData × PyData)} : H a = some (.ins C dx fs) → cm c C → DvF cm H fs ps → Dv cm H (.ref a) (.dict ((.none, .str c) :: ps))
inductive DvA (cm : CM) (H : Hp) : List V → List PyData → Prop
  | nil : DvA cm H [] []
  | cons {v : V} {vs : List V} {d : PyData} {ds : List PyData} : Dv cm H v d → DvA cm H vs ds → DvA cm H (v :: vs) (d :: ds)
inductive DvK (cm : CM) (H : Hp) : List (Key × V) → List (PyData × PyData) → Prop
  | nil : DvK cm H [] []
  | cons {k : Key} {v : V} {r : List (Key × V)} {d : PyData} {ps : List (PyData × PyData)} : Dv cm H v d → DvK cm H r ps → DvK cm H ((k, v) :: r) ((kD k, d) :: ps)
inductive DvT (cm : CM) (H : Hp) : List (List Key × V) → List (PyData × PyData) → Prop
  | nil : DvT cm H [] []
  | cons {k : List Key} {v : V} {r : List (List Key × V)} {d : PyData} {ps : List (PyData × PyData)} : Dv cm H v d → DvT cm H r ps → DvT cm H ((k, v) :: r) ((.tuple (k.map kD), d) :: ps)
inductive DvF (cm : CM) (H : Hp) : List (Str × V) → List (PyData × PyData) → Prop
  | nil : DvF cm H [] []
  | cons {k : Str} {v : V} {r : List (Str × V)} {d : PyData} {ps : List (PyData × PyData)} : Dv cm H v d → DvF cm H r ps → DvF cm H ((k, v) :: r) ((.str k, d) :: ps)
end
mutual
theorem Dv.mono {cm : CM} {H H' : Hp} (e : Same H H') {v : V} {d : PyData} : Dv cm H v d → Dv cm H' v d
  | .non => .non
  | .bl b => .bl b
  | .int i => .int i
  | .str x => .str x
  | .lst h k => .lst (e _ _ h) (DvA.mono e k)
  | .tup h k => .tup (e _ _ h) (DvA.mono e k)
  | .dK h n k => .dK (e _ _ h) n (DvK.mono e k)
  | .dT h n k => .dT (e _ _ h) n (DvT.mono e k)
  | .ins h c k => .ins (e _ _ h) c (DvF.mono e k)
theorem DvA.mono {cm : CM} {H H' : Hp} (e : Same H H') {v : List V} {d : List PyData} : DvA cm H v d → DvA cm H' v d
  | .nil => .nil
  | .cons h k => .cons (Dv.mono e h) (DvA.mono e k)
theorem DvK.mono {cm : CM} {H H' : Hp} (e : Same H H') {v : List (Key × V)} {d : List (PyData × PyData)} : DvK cm H v d → DvK cm H' v d
  | .nil => .nil
  | .cons h k => .cons (Dv.mono e h) (DvK.mono e k)
theorem DvT.mono {cm : CM} {H H' : Hp} (e : Same H H') {v : List (List Key × V)} {d : List (PyData × PyData)} : DvT cm H v d → DvT cm H' v d
  | .nil => .nil
  | .cons h k => .cons (Dv.mono e h) (DvT.mono e k)
theorem DvF.mono {cm : CM} {H H' : Hp} (e : Same H H') {v : List (Str × V)} {d : List (PyData × PyData)} : DvF cm H v d → DvF cm H' v d
  | .nil => .nil
  | .cons h k => .cons (Dv.mono e h) (DvF.mono e k)
end
mutual
/-- no dict, no instance within -/
def plainD : PyData → Bool
  | .list ds => plainDs ds
  | .tuple ds => plainDs ds
  | .dict _ => false
  | _ => true
def plainDs : List PyData → Bool
  | [] => true
  | d :: ds => plainD d && plainDs ds
end
mutual
theorem Dv.dd {cm : CM} {H : Hp} : ∀ {d : PyData} {v : V}, plainD d = true → Dv cm H v d → Dd H v d
  | .none, _, _, h => by cases h; exact .non
  | .bool _, _, _, h => by cases h; exact .bl _
  | .int _, _, _, h => by cases h; exact .int _
  | .str _, _, _, h => by cases h; exact .str _
  | .list ds, _, p, h => by
    cases h with
    | lst h1 h2 => exact .lst h1 (DvA.dd (by simpa only [plainD] using p) h2)
  | .tuple ds, _, p, h => by
    cases h with
    | tup h1 h2 => exact .tup h1 (DvA.dd (by simpa only [plainD] using p) h2)
  | .dict _, _, p, _ => by simp [plainD] at p
theorem DvA.dd {cm : CM} {H : Hp} : ∀ {ds : List PyData} {vs : List V}, plainDs ds = true → DvA cm H vs ds → DdAll H vs ds
  | [], _, _, h => by cases h; exact .nil
  | d :: ds, _, p, h => by
    simp only [plainDs, Bool.and_eq_true] at p
    cases h with
    | cons h1 h2 => exact .cons (Dv.dd p.1 h1) (DvA.dd p.2 h2)
end
mutual
theorem dd_dv {cm : CM} {H : Hp} : ∀ {d : PyData} {v : V}, Dd H v d → Dv cm H v d
  | .none, _, h => by cases h; exact .non
  | .bool _, _, h => by cases h; exact .bl _
  | .int _, _, h => by cases h; exact .int _
  | .str _, _, h => by cases h; exact .str _
  | .list ds, _, h => by
    cases h with
    | lst h1 h2 => exact .lst h1 (ddAll_dv h2)
  | .tuple ds, _, h => by
    cases h with
    | tup h1 h2 => exact .tup h1 (ddAll_dv h2)
  | .dict _, _, h => by cases h
theorem ddAll_dv {cm : CM} {H : Hp} : ∀ {ds : List PyData} {vs : List V}, DdAll H vs ds → DvA cm H vs ds
  | [], _, h => by cases h; exact .nil
  | _ :: _, _, h => by
    cases h with
    | cons h1 h2 => exact .cons (dd_dv h1) (ddAll_dv h2)
end
section
variable {cm : CM} {H : Hp}
theorem DvA.length : ∀ {ds : List PyData} {vs : List V}, DvA cm H vs ds → vs.length = ds.length
  | [], _, h => by cases h; rfl
  | _ :: _, _, h => by
    cases h with
    | cons h1 h2 => exact congrArg (· + 1) (DvA.length h2)
theorem DvA.get : ∀ {ds : List PyData} {vs : List V} {i : Nat} {v : V}, DvA cm H vs ds → vs[i]? = some v → ∃ d, ds[i]? = some d ∧ Dv cm H v d
  | [], _, i, v, h, e => by cases h; simp at e
  | d :: ds, _, 0, v, h, e => by
    cases h with
    | cons h1 h2 =>
      simp at e
      subst e
      exact ⟨d, rfl, h1⟩
  | d :: ds, _, i + 1, v, h, e => by
    cases h with
    | cons h1 h2 =>
      simp at e
      obtain ⟨d', q1, q2⟩ := DvA.get h2 e
      exact ⟨d', by simpa using q1, q2⟩
theorem DvA.get' {ds : List PyData} {vs : List V} {i : Nat} {d : PyData} (h : DvA cm H vs ds) (e : ds[i]? = some d) : ∃ v, vs[i]? = some v ∧ Dv cm H v d := by
  have hl := h.length
  obtain ⟨hi, _⟩ := List.getElem?_eq_some_iff.mp e
  have hv : vs[i]? = some vs[i] := List.getElem?_eq_getElem (by omega)
  obtain ⟨d', q1, q2⟩ := h.get hv
  rw [e] at q1
  cases q1
  exact ⟨_, hv, q2⟩
theorem DvA.append : ∀ {ds es : List PyData} {vs ws : List V}, DvA cm H vs ds → DvA cm H ws es → DvA cm H (vs ++ ws) (ds ++ es)
  | [], _, _, _, h, k => by cases h; exact k
  | _ :: _, _, _, _, h, k => by
    cases h with
    | cons h1 h2 => exact .cons h1 (DvA.append h2 k)
theorem DvA.take : ∀ {ds : List PyData} {vs : List V} (n : Nat), DvA cm H vs ds → DvA cm H (vs.take n) (ds.take n)
  | _, _, 0, _ => .nil
  | [], _, n + 1, h => by cases h; exact .nil
  | _ :: _, _, n + 1, h => by
    cases h with
    | cons h1 h2 => exact .cons h1 (DvA.take n h2)
theorem DvA.drop : ∀ {ds : List PyData} {vs : List V} (n : Nat), DvA cm H vs ds → DvA cm H (vs.drop n) (ds.drop n)
  | _, _, 0, h => h
  | [], _, n + 1, h => by cases h; exact .nil
  | _ :: _, _, n + 1, h => by
    cases h with
    | cons h1 h2 => exact DvA.drop n h2
theorem DvA.rev : ∀ {ds : List PyData} {vs : List V}, DvA cm H vs ds → DvA cm H vs.reverse ds.reverse
  | [], _, h => by cases h; exact .nil
  | d :: ds, _, h => by
    cases h with
    | cons h1 h2 =>
      rw [List.reverse_cons, List.reverse_cons]
      exact (DvA.rev h2).append (.cons h1 .nil)
theorem DvA.set : ∀ {ds : List PyData} {vs : List V} {v : V} {d : PyData} (i : Nat), Dv cm H v d → DvA cm H vs ds → DvA cm H (vs.set i v) (ds.set i d)
  | [], _, _, _, i, _, h => by cases h; exact .nil
  | _ :: _, _, _, _, 0, k, h => by
    cases h with
    | cons h1 h2 => exact .cons k h2
  | _ :: _, _, _, _, i + 1, k, h => by
    cases h with
    | cons h1 h2 => exact .cons h1 (DvA.set i k h2)
theorem DvA.ints : ∀ (ns : List Int), DvA cm H (ns.map V.int) (ns.map PyData.int)
  | [] => .nil
  | n :: ns => .cons (.int n) (DvA.ints ns)
end
end Sm

set_option maxHeartbeats 4000000
namespace Sm
open PySem PySem.Spec PyProof.Rows L2 Lf

/-! ## what a program does, without a heap -/
/-- an error: its class, its fields -/
abbrev Exn := Str × List (PyData × PyData)
/-- cells: lists that a callee may write -/
abbrev Sto := List (List PyData)
inductive R (α : Type) where
  | ok (a : α) (S : Sto)
  | er (e : Exn) (S : Sto)
  | no
abbrev M (α : Type) := Sto → R α
@[reducible] def M.pure {α : Type} (a : α) : M α := fun S => .ok a S
def R.bind {α β : Type} (r : R α) (g : α → M β) : R β := match r with
  | .ok a S => g a S
  | .er e S => .er e S
  | .no => .no
@[reducible] def M.bind {α β : Type} (m : M α) (g : α → M β) : M β := fun S => (m S).bind g
/-- a value by a name: data, a cell, an own list -/
inductive Vl where
  | d (x : PyData)
  | c (n : Nat)
  | o (ds : List PyData)
abbrev Env := List (Option Vl)
abbrev Ex := Env → M Vl
abbrev Exs := Env → M (List Vl)
inductive Out where
  | nx | rt (x : Vl) | bk | ct | er (e : Exn)
/-- a statement: how it ends, the names, the cells; none: not known -/
abbrev Sx := Env → Sto → Option (Out × Env × Sto)
abbrev Fn := List Vl → M Vl

/-! ## how it stands in a heap -/
structure Wd (cm : CM) (A : List Addr) (S : Sto) (D : Hp) (F : List (Addr × HO)) (H : Hp) : Prop where
  sub : Same D H
  frs : ∀ p ∈ F, H p.1 = some p.2 ∧ D p.1 = none ∧ p.1 ∉ A
  ndF : (F.map (·.1)).Nodup
  cel : ∀ (n : Nat) (ds : List PyData), S[n]? = some ds → ∃ a xs, A[n]? = some a ∧ H a = some (.lst xs) ∧ DvA cm D xs ds
  out : ∀ a ∈ A, D a = none
  ndA : A.Nodup
  len : A.length = S.length
/-- a value by what the heap has -/
def VR (cm : CM) (A : List Addr) (D : Hp) (Ow : List (Addr × HO)) : Vl → V → Prop
  | .d x, v => Dv cm D v x
  | .c n, v => ∃ a, A[n]? = some a ∧ v = .ref a
  | .o ds, v => ∃ a xs, v = .ref a ∧ (a, HO.lst xs) ∈ Ow ∧ DvA cm D xs ds
def isOwn : Option (Option Vl) → Bool
  | some (some (.o _)) => true
  | _ => false
structure Er (cm : CM) (A : List Addr) (D : Hp) (Ow : List (Addr × HO)) (ρ : Env) (σ : L2.St) : Prop where
  len : ρ.length = σ.length
  at' : ∀ (i : Nat) (x : Vl), ρ[i]? = some (some x) → ∃ v, σ[i]? = some (some v) ∧ VR cm A D Ow x v
  ne : ∀ (i j : Nat) (a : Addr), i ≠ j → isOwn ρ[i]? = true → isOwn ρ[j]? = true → σ[i]? = some (some (.ref a)) → σ[j]? = some (some (.ref a)) → False
/-- the error e flies: its class, its dict -/
def XR (cm : CM) (D H : Hp) (e : Exn) (cl : Value) (dd : Option Addr) : Prop :=
  ∃ C, cm e.1 C ∧ cl = .ref C ∧ ((e.2 = [] ∧ dd = none) ∨ ∃ d fs, dd = some d ∧ H d = some (.xd fs) ∧ DvF cm D fs e.2)
def fin {α : Type} (cm : CM) (A : List Addr) (F : List (Addr × HO)) (D : Hp) (r : R α) (okP : α → Sto → Hp → Hp → Prop) (erP : Exn → Sto → Hp → Hp → Prop) : Prop := match r with
  | .ok x S' => ∀ D' H', Wd cm A S' D' F H' → Same D D' → okP x S' D' H'
  | .er e S' => ∀ D' H', Wd cm A S' D' F H' → Same D D' → erP e S' D' H'
  | .no => False
/-- a state -/
structure Pk where
  A : List Addr
  S : Sto
  D : Hp
  Ow : List (Addr × HO)
  Fr : List (Addr × HO)
  ρ : Env
structure Pk.Ok (cm : CM) (p : Pk) (σ : L2.St) (H : Hp) : Prop where
  wd : Wd cm p.A p.S p.D (p.Ow ++ p.Fr) H
  er : Er cm p.A p.D p.Ow p.ρ σ
def Pk.fin {α : Type} (cm : CM) (p : Pk) (r : R α) (okP : α → Sto → Hp → Hp → Prop) (erP : Exn → Sto → Hp → Hp → Prop) : Prop := Sm.fin cm p.A (p.Ow ++ p.Fr) p.D r okP erP
def erW (cm : CM) (W : WX) (σ : L2.St) : Exn → Sto → Hp → Hp → Prop := fun e _ D' H' => ∀ cl dd, XR cm D' H' e cl dd → W cl dd σ H'
def tE (cm : CM) (W : WX) (f : Ex) : TE := fun σ H Q => ∃ p : Pk, p.Ok cm σ H ∧ p.fin cm (f p.ρ p.S) (fun x _ D' H' => ∀ v, VR cm p.A D' p.Ow x v → Q v H') (erW cm W σ)
def VRs (cm : CM) (A : List Addr) (D : Hp) (Ow : List (Addr × HO)) : List Vl → List V → Prop := Paired (VR cm A D Ow)
def tA (cm : CM) (W : WX) (f : Exs) : TA := fun σ H Q => ∃ p : Pk, p.Ok cm σ H ∧ p.fin cm (f p.ρ p.S) (fun x _ D' H' => ∀ v, VRs cm p.A D' p.Ow x v → Q v H') (erW cm W σ)
/-- a test's end -/
def tT (cm : CM) (W : WX) (f : Env → M Bool) : TT := fun σ H Q => ∃ p : Pk, p.Ok cm σ H ∧ p.fin cm (f p.ρ p.S) (fun b _ D' H' => Q b H') (erW cm W σ)
def outP (cm : CM) (W : WX) (Ds : Ends) (o : Out) (q : Pk) (σ' : L2.St) (H' : Hp) : Prop := match o with
  | .nx => Ds.nx σ' H'
  | .bk => Ds.bk σ' H'
  | .ct => Ds.ct σ' H'
  | .rt x => ∀ v, VR cm q.A q.D q.Ow x v → Ds.rt v H'
  | .er e => ∀ cl dd, XR cm q.D H' e cl dd → W cl dd σ' H'
def finS (cm : CM) (p : Pk) (r : Option (Out × Env × Sto)) (P : Out → Pk → L2.St → Hp → Prop) : Prop := match r with
  | some (o, ρ', S') => ∀ D' Ow' σ' H', Pk.Ok cm ⟨p.A, S', D', Ow', p.Fr, ρ'⟩ σ' H' → Same p.D D' → P o ⟨p.A, S', D', Ow', p.Fr, ρ'⟩ σ' H'
  | none => False
def tS (cm : CM) (W : WX) (f : Sx) : TS := fun Ds σ H => ∃ p : Pk, p.Ok cm σ H ∧ finS cm p (f p.ρ p.S) (fun o q σ' H' => outP cm W Ds o q σ' H')

/-! ## weakening, following -/
section
variable {cm : CM} {A : List Addr} {S : Sto} {D D' : Hp} {F Ow : List (Addr × HO)} {H : Hp} {ρ : Env} {σ : L2.St} {x : Vl} {v : V}
theorem VR.mono (s : Same D D') (h : VR cm A D Ow x v) : VR cm A D' Ow x v := by
  cases x with
  | d x => exact Dv.mono s h
  | c n => exact h
  | o ds =>
    obtain ⟨a, xs, h1, h2, h3⟩ := h
    exact ⟨a, xs, h1, h2, h3.mono s⟩
theorem Er.mono (s : Same D D') (h : Er cm A D Ow ρ σ) : Er cm A D' Ow ρ σ :=
  ⟨h.len, fun i x e => let ⟨v, h1, h2⟩ := h.at' i x e; ⟨v, h1, h2.mono s⟩, h.ne⟩
theorem VRs.mono (s : Same D D') : ∀ {xs : List Vl} {vs : List V}, VRs cm A D Ow xs vs → VRs cm A D' Ow xs vs
  | _, _, .nil => .nil
  | _, _, .cons h k => .cons (VR.mono s h) (VRs.mono s k)
variable {α β : Type} {okP okP' : α → Sto → Hp → Hp → Prop} {erP erP' : Exn → Sto → Hp → Hp → Prop} {r : R α}
theorem fin.imp (h : fin cm A F D r okP erP) (k : ∀ x S' D' H', Wd cm A S' D' F H' → Same D D' → okP x S' D' H' → okP' x S' D' H') (k2 : ∀ x S' D' H', Wd cm A S' D' F H' → Same D D' → erP x S' D' H' → erP' x S' D' H') : fin cm A F D r okP' erP' := by
  cases r with
  | ok x S' => exact fun D' H' w s => k _ _ _ _ w s (h D' H' w s)
  | er e S' => exact fun D' H' w s => k2 _ _ _ _ w s (h D' H' w s)
  | no => exact h
theorem fin.bind {m : R α} {g : α → M β} {okP : β → Sto → Hp → Hp → Prop} (h : fin cm A F D (m.bind g) okP erP) : fin cm A F D m (fun x S1 D1 H1 => fin cm A F D1 (g x S1) okP erP) erP := by
  cases m with
  | ok x S1 =>
    intro D1 H1 w1 s1
    have h' : fin cm A F D (g x S1) okP erP := h
    cases e : g x S1 with
    | ok y S2 => rw [e] at h'; exact fun D2 H2 w2 s2 => h' D2 H2 w2 (s1.trans s2)
    | er y S2 => rw [e] at h'; exact fun D2 H2 w2 s2 => h' D2 H2 w2 (s1.trans s2)
    | no => rw [e] at h'; exact h'
  | er e S1 => exact h
  | no => exact h
/-- behind an expression the state stands on -/
theorem Pk.Ok.on {p : Pk} {S' : Sto} (h : p.Ok cm σ H) {H' : Hp} (w : Wd cm p.A S' D' (p.Ow ++ p.Fr) H') (s : Same p.D D') : Pk.Ok cm ⟨p.A, S', D', p.Ow, p.Fr, p.ρ⟩ σ H' := ⟨w, h.er.mono s⟩
end
section
variable {X : Cx}
theorem pe_imp {e : Expr} {t t' : TE} (h : PE X e t) (k : ∀ σ H Q, t' σ H Q → t σ H Q) : PE X e t' := ⟨fun pins s σ H Q I q => h.run pins s σ H Q I (k _ _ _ q)⟩
theorem pt_imp {e : Expr} {t t' : TT} (h : PT X e t) (k : ∀ σ H Q, t' σ H Q → t σ H Q) : PT X e t' := ⟨fun pins s σ H Q I q => h.run pins s σ H Q I (k _ _ _ q)⟩
theorem pa_imp {e : List Expr} {t t' : TA} (h : PA X e t) (k : ∀ σ H Q, t' σ H Q → t σ H Q) : PA X e t' := ⟨fun pos pins s σ H Q I q => h.run pos pins s σ H Q I (k _ _ _ q)⟩
theorem ps_imp {e : Stmt} {t t' : TS} (h : PS X e t) (k : ∀ D σ H, t' D σ H → t D σ H) : PS X e t' := ⟨fun pins s σ H D I q => h.run pins s σ H D I (k _ _ _ q)⟩
theorem pss_imp {e : List Stmt} {t t' : TS} (h : PSs X e t) (k : ∀ D σ H, t' D σ H → t D σ H) : PSs X e t' := ⟨fun pins s σ H D I q => h.run pins s σ H D I (k _ _ _ q)⟩
end
/-! ## the judgements -/
abbrev GE (X : Cx) (cm : CM) (W : WX) (e : Expr) (f : Ex) : Prop := PE X e (tE cm W f)
abbrev GA (X : Cx) (cm : CM) (W : WX) (e : List Expr) (f : Exs) : Prop := PA X e (tA cm W f)
abbrev GT (X : Cx) (cm : CM) (W : WX) (e : Expr) (f : Env → M Bool) : Prop := PT X e (tT cm W f)
abbrev GS (X : Cx) (cm : CM) (W : WX) (e : Stmt) (f : Sx) : Prop := PS X e (tS cm W f)
abbrev GSs (X : Cx) (cm : CM) (W : WX) (e : List Stmt) (f : Sx) : Prop := PSs X e (tS cm W f)

end Sm

set_option maxHeartbeats 4000000
namespace Sm
open PySem PySem.Spec PyProof.Rows L2 Lf

def big : Nat := 1000000
theorem big_le {n : Nat} (h : n ≤ big) : n < sizeLine := Nat.lt_of_le_of_lt h (by decide)

/-! ## expressions: what they do -/
def eV (i : Nat) : Ex := fun ρ S => match ρ[i]? with
  | some (some x) => .ok x S
  | _ => .no
/-- what is read of a value -/
def view (S : Sto) : Vl → Option PyData
  | .d x => some x
  | .c n => match S[n]? with
    | some ds => some (.list ds)
    | none => none
  | .o ds => some (.list ds)
def lift (r : Option PyData) : M Vl := fun S => match r with
  | some c => .ok (.d c) S
  | none => .no
def eK (x : PyData) : Ex := fun _ S => .ok (.d x) S
def e1 (f : Vl → M Vl) (a : Ex) : Ex := fun ρ S => (a ρ S).bind f
def e2 (f : Vl → Vl → M Vl) (a b : Ex) : Ex := fun ρ S => (a ρ S).bind fun x S1 => (b ρ S1).bind fun y => f x y
def lift1 (f : PyData → Option PyData) (x : Vl) : M Vl := fun S => match view S x with
  | some a => lift (f a) S
  | none => .no
def lift2 (f : PyData → PyData → Option PyData) (x y : Vl) : M Vl := fun S => match view S x, view S y with
  | some a, some b => lift (f a b) S
  | _, _ => .no
def toB : Vl → M Bool
  | .d (.bool b) => fun S => .ok b S
  | _ => fun _ => .no
def eAnd (a b : Ex) : Ex := fun ρ S => (a ρ S).bind fun x S1 => match x with
  | .d (.bool true) => b ρ S1
  | .d (.bool false) => .ok (.d (.bool false)) S1
  | _ => .no
def eOr (a b : Ex) : Ex := fun ρ S => (a ρ S).bind fun x S1 => match x with
  | .d (.bool true) => .ok (.d (.bool true)) S1
  | .d (.bool false) => b ρ S1
  | _ => .no
def eIf (c : Env → M Bool) (a b : Ex) : Ex := fun ρ S => (c ρ S).bind fun x S1 => match x with
  | true => a ρ S1
  | false => b ρ S1
def eTest (a : Ex) : Env → M Bool := fun ρ S => (a ρ S).bind toB
def eNotT (c : Env → M Bool) : Env → M Bool := fun ρ S => (c ρ S).bind fun b S1 => .ok (!b) S1
def asNil : Exs := fun _ S => .ok [] S
def asCons (a : Ex) (r : Exs) : Exs := fun ρ S => (a ρ S).bind fun x S1 => (r ρ S1).bind fun xs S2 => .ok (x :: xs) S2
def eArgs (f : List Vl → M Vl) (r : Exs) : Ex := fun ρ S => (r ρ S).bind f
def datas : List Vl → Option (List PyData)
  | [] => some []
  | .d x :: r => match datas r with
    | some xs => some (x :: xs)
    | none => none
  | _ :: _ => none
def mkTup (xs : List Vl) : M Vl := fun S => match datas xs with
  | some ds => if ds.length ≤ big then .ok (.d (.tuple ds)) S else .no
  | none => .no
def mkLst (xs : List Vl) : M Vl := fun S => match datas xs with
  | some ds => if ds.length ≤ big then .ok (.d (.list ds)) S else .no
  | none => .no
def views (S : Sto) : List Vl → Option (List PyData)
  | [] => some []
  | x :: r => match view S x, views S r with
    | some a, some as => some (a :: as)
    | _, _ => none
/-- a built-in of what it reads -/
def liftA (f : List PyData → Option PyData) (xs : List Vl) : M Vl := fun S => match views S xs with
  | some ds => lift (f ds) S
  | none => .no

/-! ## what is read: data, or a list that is not data yet -/
inductive Dw (cm : CM) (D H : Hp) : V → PyData → Prop
  | d {v : V} {x : PyData} : Dv cm D v x → Dw cm D H v x
  | l {a : Addr} {xs : List V} {ds : List PyData} : H a = some (.lst xs) → DvA cm D xs ds → Dw cm D H (.ref a) (.list ds)
def DwA (cm : CM) (D H : Hp) : List V → List PyData → Prop := Paired (Dw cm D H)
section
variable {cm : CM} {D H : Hp} {v : V}
theorem Dw.int {i : Int} (h : Dw cm D H v (.int i)) : v = .int i := by
  cases h with
  | d h => cases h; rfl
theorem Dw.str {x : Str} (h : Dw cm D H v (.str x)) : v = .str x := by
  cases h with
  | d h => cases h; rfl
theorem Dw.bl {b : Bool} (h : Dw cm D H v (.bool b)) : v = .bl b := by
  cases h with
  | d h => cases h; rfl
theorem Dw.non (h : Dw cm D H v .none) : v = .non := by
  cases h with
  | d h => cases h; rfl
theorem Dw.lst (s : Same D H) {ds : List PyData} (h : Dw cm D H v (.list ds)) : ∃ a xs, v = .ref a ∧ H a = some (.lst xs) ∧ DvA cm D xs ds := by
  cases h with
  | d h =>
    cases h with
    | lst h1 h2 => exact ⟨_, _, rfl, s _ _ h1, h2⟩
  | l h1 h2 => exact ⟨_, _, rfl, h1, h2⟩
theorem Dw.tup {ds : List PyData} (h : Dw cm D H v (.tuple ds)) : ∃ a xs, v = .ref a ∧ D a = some (.tup xs) ∧ DvA cm D xs ds := by
  cases h with
  | d h =>
    cases h with
    | tup h1 h2 => exact ⟨_, _, rfl, h1, h2⟩
theorem Dw.dct {ps : List (PyData × PyData)} (h : Dw cm D H v (.dict ps)) : Dv cm D v (.dict ps) := by
  cases h with
  | d h => exact h
theorem Dw.inH (s : Same D H) {d : PyData} (h : Dw cm D H v d) : Dv cm H v d := by
  cases h with
  | d h => exact h.mono s
  | l h1 h2 => exact .lst h1 (h2.mono s)
end

/-! ## operators on data -/
def OpF (cm : CM) (r : R2) (f : PyData → PyData → Option PyData) : Prop := ∀ (A : List Addr) (S : Sto) (D : Hp) (F : List (Addr × HO)) (H : Hp) (x y : V) (a b c : PyData) (Q : VK), Wd cm A S D F H → Dw cm D H x a → Dw cm D H y b → f a b = some c →
  (∀ D' H' w, Wd cm A S D' F H' → Same D D' → Dv cm D' w c → Q w H') → r x y H Q
def UnF (cm : CM) (r : V → Hp → VK → Prop) (f : PyData → Option PyData) : Prop := ∀ (A : List Addr) (S : Sto) (D : Hp) (F : List (Addr × HO)) (H : Hp) (x : V) (a c : PyData) (Q : VK), Wd cm A S D F H → Dw cm D H x a → f a = some c →
  (∀ D' H' w, Wd cm A S D' F H' → Same D D' → Dv cm D' w c → Q w H') → r x H Q
def CaF (cm : CM) (r : List V → Hp → VK → Prop) (f : List PyData → Option PyData) : Prop := ∀ (A : List Addr) (S : Sto) (D : Hp) (F : List (Addr × HO)) (H : Hp) (xs : List V) (as : List PyData) (c : PyData) (Q : VK), Wd cm A S D F H → DwA cm D H xs as → f as = some c →
  (∀ D' H' w, Wd cm A S D' F H' → Same D D' → Dv cm D' w c → Q w H') → r xs H Q
theorem opR_or {X : Cx} {f : Value → Value → Sem Value} {r r' : R2} (h : OpR X f r) (h' : OpR X f r') : OpR X f (fun x y H Q => r x y H Q ∨ r' x y H Q) := fun pins s σ H x y v u Q I r1 r2 q => q.elim (h pins s σ H x y v u Q I r1 r2) (h' pins s σ H x y v u Q I r1 r2)
def orF (f g : PyData → PyData → Option PyData) : PyData → PyData → Option PyData := fun a b => match f a b with
  | some c => some c
  | none => g a b
theorem OpF.or {cm : CM} {r r' : R2} {f g : PyData → PyData → Option PyData} (h : OpF cm r f) (h' : OpF cm r' g) : OpF cm (fun x y H Q => r x y H Q ∨ r' x y H Q) (orF f g) := fun A S D F H x y a b c Q w hx hy e q => by
  unfold orF at e
  split at e
  · rename_i c' e'
    cases e
    exact .inl (h A S D F H x y a b _ Q w hx hy e' q)
  · exact .inr (h' A S D F H x y a b c Q w hx hy e q)
/-- a new object that is data -/
theorem Wd.new {cm : CM} {A : List Addr} {S : Sto} {D : Hp} {F : List (Addr × HO)} {H : Hp} (w : Wd cm A S D F H) {p : Addr} (np : H p = none) (o : HO) : Wd cm A S (upd D p o) F (upd H p o) ∧ Same D (upd D p o) := by
  have nd : D p = none := by
    cases e : D p with
    | none => rfl
    | some u => rw [w.sub _ _ e] at np; cases np
  have sD : Same D (upd D p o) := same_new nd o
  have pH : ∀ b u, H b = some u → b ≠ p := fun b u e z => by rw [z, np] at e; cases e
  refine ⟨⟨fun b u e => ?_, fun q hq => ?_, w.ndF, fun n ds e => ?_, fun a ha => ?_, w.ndA, w.len⟩, sD⟩
  · by_cases hb : b = p
    · subst hb
      rw [upd_same] at e ⊢
      exact e
    · rw [upd_ne hb] at e ⊢
      exact w.sub _ _ e
  · obtain ⟨h1, h2, h3⟩ := w.frs q hq
    have hb := pH _ _ h1
    exact ⟨by rw [upd_ne hb]; exact h1, by rw [upd_ne hb]; exact h2, h3⟩
  · obtain ⟨a, xs, h1, h2, h3⟩ := w.cel n ds e
    exact ⟨a, xs, h1, by rw [upd_ne (pH _ _ h2)]; exact h2, h3.mono sD⟩
  · obtain ⟨n, hn⟩ := List.getElem?_of_mem ha
    have hl : n < S.length := by rw [← w.len]; exact (List.getElem?_eq_some_iff.mp hn).1
    obtain ⟨a', xs, h1, h2, h3⟩ := w.cel n S[n] (List.getElem?_eq_getElem hl)
    rw [hn] at h1
    cases h1
    rw [upd_ne (pH _ _ h2)]
    exact w.out a ha
/-- a new object that is no data and stays away -/
theorem Wd.newF {cm : CM} {A : List Addr} {S : Sto} {D : Hp} {F : List (Addr × HO)} {H : Hp} (w : Wd cm A S D F H) {p : Addr} (np : H p = none) (o : HO) : Wd cm A S D ((p, o) :: F) (upd H p o) := by
  have nd : D p = none := by
    cases e : D p with
    | none => rfl
    | some u => rw [w.sub _ _ e] at np; cases np
  have pH : ∀ b u, H b = some u → b ≠ p := fun b u e z => by rw [z, np] at e; cases e
  refine ⟨fun b u e => ?_, fun q hq => ?_, ?_, fun n ds e => ?_, w.out, w.ndA, w.len⟩
  · rw [upd_ne (pH _ _ (w.sub _ _ e))]
    exact w.sub _ _ e
  · rcases List.mem_cons.mp hq with rfl | hq
    · refine ⟨upd_same, nd, fun hA => ?_⟩
      obtain ⟨n, hn⟩ := List.getElem?_of_mem hA
      have hl : n < S.length := by rw [← w.len]; exact (List.getElem?_eq_some_iff.mp hn).1
      obtain ⟨a', xs, h1, h2, h3⟩ := w.cel n S[n] (List.getElem?_eq_getElem hl)
      rw [hn] at h1
      cases h1
      exact pH _ _ h2 rfl
    · obtain ⟨h1, h2, h3⟩ := w.frs q hq
      exact ⟨by rw [upd_ne (pH _ _ h1)]; exact h1, h2, h3⟩
  · rw [List.map_cons, List.nodup_cons]
    refine ⟨fun hm => ?_, w.ndF⟩
    obtain ⟨q, hq, e⟩ := List.mem_map.mp hm
    exact pH _ _ (w.frs q hq).1 e
  · obtain ⟨a, xs, h1, h2, h3⟩ := w.cel n ds e
    exact ⟨a, xs, h1, by rw [upd_ne (pH _ _ h2)]; exact h2, h3⟩
section
variable {cm : CM}
def intOp (g : Int → Int → Option PyData) : PyData → PyData → Option PyData
  | .int i, .int j => g i j
  | _, _ => none
/-- ints in, a scalar out -/
theorem intOp_inv {g : Int → Int → Option PyData} {a b c : PyData} (e : intOp g a b = some c) : ∃ i j, a = .int i ∧ b = .int j ∧ g i j = some c := by
  unfold intOp at e
  split at e
  · exact ⟨_, _, rfl, rfl, e⟩
  · cases e
theorem opF_rI0 {g : Int → Int → V} {f : Int → Int → PyData} (h : ∀ D i j, Dv cm D (g i j) (f i j)) : OpF cm (rI0 g) (intOp fun i j => some (f i j)) := fun A S D F H x y a b c Q w hx hy e q => by
  obtain ⟨i, j, rfl, rfl, e⟩ := intOp_inv e
  cases e
  exact ⟨_, _, hx.int, hy.int, q D H _ w (.refl D) (h D _ _)⟩
theorem opF_rI {C : Int → Int → Prop} {g : Int → Int → V} {f : Int → Int → Option PyData} (h : ∀ D i j c, f i j = some c → C i j ∧ Dv cm D (g i j) c) : OpF cm (rI C g) (intOp f) := fun A S D F H x y a b c Q w hx hy e q => by
  obtain ⟨i, j, rfl, rfl, e⟩ := intOp_inv e
  obtain ⟨h1, h2⟩ := h D _ _ c e
  exact ⟨_, _, hx.int, hy.int, h1, q D H _ w (.refl D) h2⟩
/-- small enough to be multiplied -/
def smallI (i : Int) : Bool := decide (i.natAbs < 2 ^ 4000)
def mulI (i j : Int) : Option PyData := if smallI i && smallI j then some (.int (i * j)) else none
def divI (i j : Int) : Option PyData := if 0 < j && smallI j then some (.int (i / j)) else none
def modI (i j : Int) : Option PyData := if 0 < j then some (.int (i % j)) else none
def powI (i j : Int) : Option PyData := if 0 ≤ j && decide (j ≤ 1000) && decide (i.natAbs < 2 ^ 60) then some (.int (i ^ j.toNat)) else none
def catL : PyData → PyData → Option PyData
  | .list as, .list bs => if as.length + bs.length ≤ big then some (.list (as ++ bs)) else none
  | _, _ => none
def catT : PyData → PyData → Option PyData
  | .tuple as, .tuple bs => if as.length + bs.length ≤ big then some (.tuple (as ++ bs)) else none
  | _, _ => none
def catS : PyData → PyData → Option PyData
  | .str x, .str y => if x.length + y.length ≤ big then some (.str (x ++ y)) else none
  | _, _ => none
def addD : PyData → PyData → Option PyData := orF (intOp fun i j => some (.int (i + j))) (orF catL (orF catT catS))
def subD : PyData → PyData → Option PyData := intOp fun i j => some (.int (i - j))
def mulD : PyData → PyData → Option PyData := intOp mulI
def divD : PyData → PyData → Option PyData := intOp divI
def modD : PyData → PyData → Option PyData := intOp modI
def powD : PyData → PyData → Option PyData := intOp powI
theorem small_of {i : Int} (h : smallI i = true) : i.natAbs < 2 ^ 4000 := of_decide_eq_true h
theorem opF_catL : OpF cm rCat catL := fun A S D F H x y a b c Q w hx hy e q => by
  unfold catL at e
  split at e
  · rename_i as bs
    split at e
    · rename_i hl
      cases e
      obtain ⟨l, xs, rfl, h1, h2⟩ := hx.lst w.sub
      obtain ⟨l', ys, rfl, h3, h4⟩ := hy.lst w.sub
      refine ⟨l, l', xs, ys, rfl, rfl, h1, h3, Nat.le_of_lt (by rw [h2.length, h4.length]; exact big_le hl), fun p np => ?_⟩
      obtain ⟨w', s⟩ := w.new np (.lst (xs ++ ys))
      exact q _ _ _ w' s (.lst upd_same ((h2.mono s).append (h4.mono s)))
    · cases e
  · cases e
theorem opF_catT {K : PySem.W.Frag} : OpF cm (rCatA K) catT := fun A S D F H x y a b c Q w hx hy e q => by
  unfold catT at e
  split at e
  · rename_i as bs
    split at e
    · rename_i hl
      cases e
      obtain ⟨l, xs, rfl, h1, h2⟩ := hx.tup
      obtain ⟨l', ys, rfl, h3, h4⟩ := hy.tup
      refine ⟨l, l', xs, ys, rfl, rfl, .of (w.sub _ _ h1), .of (w.sub _ _ h3), Nat.le_of_lt (by rw [h2.length, h4.length]; exact big_le hl), fun e => ?_, fun _ e => ?_, fun _ _ p np => ?_⟩
      · subst e
        cases h2
        exact q D H _ w (.refl D) (.tup h3 h4)
      · subst e
        cases h4
        rw [List.append_nil] at q
        exact q D H _ w (.refl D) (.tup h1 h2)
      · obtain ⟨w', s⟩ := w.new np (.tup (xs ++ ys))
        exact q _ _ _ w' s (.tup upd_same ((h2.mono s).append (h4.mono s)))
    · cases e
  · cases e
def rCatS : R2 := fun x y H Q => ∃ i j, x = .str i ∧ y = .str j ∧ i.length + j.length ≤ sizeLine ∧ Q (.str (i ++ j)) H
theorem opF_catS : OpF cm rCatS catS := fun A S D F H x y a b c Q w hx hy e q => by
  unfold catS at e
  split at e
  · rename_i as bs
    split at e
    · rename_i hl
      cases e
      exact ⟨_, _, hx.str, hy.str, Nat.le_of_lt (big_le hl), q D H _ w (.refl D) (.str _)⟩
    · cases e
  · cases e
end
section
variable {X : Cx} {cm : CM}
/-- an operator: what it is in the model, what it does on data -/
def Op2 (X : Cx) (cm : CM) (op : Value → Value → Sem Value) (f : PyData → PyData → Option PyData) : Prop := ∃ r, OpR X op r ∧ OpF cm r f
theorem o_add : Op2 X cm (binaryOp .Add) addD := ⟨_, opR_or op_add (opR_or op_cat (opR_or op_catA (show OpR X _ rCatS from op_add_str))), (opF_rI0 fun D i j => .int _).or (opF_catL.or (opF_catT.or opF_catS))⟩
theorem o_sub : Op2 X cm (binaryOp .Sub) subD := ⟨_, op_sub, opF_rI0 fun D i j => .int _⟩
theorem o_mul : Op2 X cm (binaryOp .Mult) mulD := ⟨_, op_mulW, opF_rI fun D i j c e => by
  unfold mulI at e
  split at e
  · rename_i h
    rw [Bool.and_eq_true] at h
    cases e
    exact ⟨wide_mul (small_of h.1) (small_of h.2) (by decide) (by decide) (by decide), .int _⟩
  · cases e⟩
theorem o_div : Op2 X cm (binaryOp .FloorDiv) divD := ⟨_, op_fdivW, opF_rI fun D i j c e => by
  unfold divI at e
  split at e
  · rename_i h
    simp only [Bool.and_eq_true, decide_eq_true_eq] at h
    cases e
    exact ⟨wide_div h.1 (small_of h.2) (by decide) (by decide), .int _⟩
  · cases e⟩
theorem o_mod : Op2 X cm (binaryOp .Mod) modD := ⟨_, op_mod, opF_rI fun D i j c e => by
  unfold modI at e
  split at e
  · rename_i h
    cases e
    exact ⟨h, .int _⟩
  · cases e⟩
theorem o_pow : Op2 X cm (binaryOp .Pow) powD := ⟨_, op_pow, opF_rI fun D i j c e => by
  unfold powI at e
  split at e
  · rename_i h
    simp only [Bool.and_eq_true, decide_eq_true_eq] at h
    cases e
    exact ⟨⟨h.1.1, by omega, by have := h.2; exact Nat.lt_trans this (by decide)⟩, .int _⟩
  · cases e⟩
end
end Sm

set_option maxHeartbeats 4000000
namespace Sm
open PySem PySem.Spec PyProof.Rows L2 Lf

/-! ## what a value is in the heap -/
section
variable {cm : CM} {A : List Addr} {S : Sto} {D : Hp} {F Ow Fr : List (Addr × HO)} {H : Hp} {x y : Vl} {v u : V}
theorem view_dw (w : Wd cm A S D (Ow ++ Fr) H) {a : PyData} (e : view S x = some a) (r : VR cm A D Ow x v) : Dw cm D H v a := by
  cases x with
  | d x => cases e; exact .d r
  | c n =>
    unfold view at e
    try dsimp only at e
    cases hs : S[n]? with
    | none => rw [hs] at e; cases e
    | some ds =>
      rw [hs] at e
      cases e
      obtain ⟨a, h1, rfl⟩ := r
      obtain ⟨a', xs, h2, h3, h4⟩ := w.cel n ds hs
      rw [h1] at h2
      cases h2
      exact .l h3 h4
  | o ds =>
    cases e
    obtain ⟨a, xs, rfl, h1, h2⟩ := r
    exact .l (w.frs _ (List.mem_append_left _ h1)).1 h2
theorem views_dw (w : Wd cm A S D (Ow ++ Fr) H) : ∀ {xs : List Vl} {vs : List V} {as : List PyData}, views S xs = some as → VRs cm A D Ow xs vs → DwA cm D H vs as
  | [], _, _, e, h => by cases h; cases e; exact .nil
  | x :: xs, _, _, e, h => by
    cases h with
    | cons h1 h2 =>
      unfold views at e
      cases e1 : view S x with
      | none => rw [e1] at e; cases e
      | some a =>
        rw [e1] at e
        try dsimp only at e
        cases e2 : views S xs with
        | none => rw [e2] at e; cases e
        | some as =>
          rw [e2] at e
          cases e
          exact .cons (view_dw w e1 h1) (views_dw w e2 h2)
variable {α : Type} {okP : Vl → Sto → Hp → Hp → Prop} {erP : Exn → Sto → Hp → Hp → Prop}
theorem lift_inv {r : Option PyData} (h : fin cm A F D (lift r S) okP erP) : ∃ c, r = some c ∧ ∀ D' H', Wd cm A S D' F H' → Same D D' → okP (.d c) S D' H' := by
  cases r with
  | none => exact absurd h id
  | some c => exact ⟨c, rfl, h⟩
theorem lift1_inv {f : PyData → Option PyData} (h : fin cm A F D (lift1 f x S) okP erP) : ∃ a c, view S x = some a ∧ f a = some c ∧ ∀ D' H', Wd cm A S D' F H' → Same D D' → okP (.d c) S D' H' := by
  unfold lift1 at h
  cases e : view S x with
  | none => rw [e] at h; exact absurd h id
  | some a =>
    rw [e] at h
    obtain ⟨c, h1, h2⟩ := lift_inv h
    exact ⟨a, c, rfl, h1, h2⟩
theorem lift2_inv {f : PyData → PyData → Option PyData} (h : fin cm A F D (lift2 f x y S) okP erP) : ∃ a b c, view S x = some a ∧ view S y = some b ∧ f a b = some c ∧ ∀ D' H', Wd cm A S D' F H' → Same D D' → okP (.d c) S D' H' := by
  unfold lift2 at h
  cases e : view S x with
  | none => rw [e] at h; exact absurd h id
  | some a =>
    cases e2 : view S y with
    | none => rw [e, e2] at h; exact absurd h id
    | some b =>
      rw [e, e2] at h
      obtain ⟨c, h1, h2⟩ := lift_inv h
      exact ⟨a, b, c, rfl, rfl, h1, h2⟩
theorem liftA_inv {f : List PyData → Option PyData} {xs : List Vl} (h : fin cm A F D (liftA f xs S) okP erP) : ∃ as c, views S xs = some as ∧ f as = some c ∧ ∀ D' H', Wd cm A S D' F H' → Same D D' → okP (.d c) S D' H' := by
  unfold liftA at h
  cases e : views S xs with
  | none => rw [e] at h; exact absurd h id
  | some a =>
    rw [e] at h
    obtain ⟨c, h1, h2⟩ := lift_inv h
    exact ⟨a, c, rfl, h1, h2⟩
end
theorem same_self (D : Hp) : Same D D := .refl D

/-! ## expressions -/
section
variable {X : Cx} {cm : CM} {W : WX}
theorem g_var (i : Nat) {x : Str} {pos : Pos} (hN : X.N[i]? = some x := by rfl) (hv : Vis X.env.scope x := by first | exact Or.inl rfl | exact Or.inr (Or.inl rfl) | exact Or.inr (Or.inr rfl)) (hd : (x == ("__debug__" : Str)) = false := by decide)
    (hcd : (x == ("__classdict__" : Str)) = false := by decide) : GE X cm W (.Name x pos) (eV i) :=
  pe_imp (pe_var hN hv hd hcd) fun σ H Q ⟨p, ok, h⟩ => by
    unfold eV at h
    cases e : p.ρ[i]? with
    | none => rw [e] at h; exact absurd h id
    | some y =>
      cases y with
      | none => rw [e] at h; exact absurd h id
      | some x =>
        rw [e] at h
        obtain ⟨v, h1, h2⟩ := ok.er.at' i x e
        exact ⟨v, h1, h p.D H ok.wd (.refl _) v h2⟩
theorem g_const {e : Expr} {c : V} {x : PyData} (h : PE X e (tC c)) (hx : ∀ D, Dv cm D c x) : GE X cm W e (eK x) := pe_imp h fun σ H Q ⟨p, ok, h⟩ => h p.D H ok.wd (.refl _) c (hx _)
theorem g_int {i : Int} {j pos} : GE X cm W (.Constant (.int i) j pos) (eK (.int i)) := g_const pe_int fun _ => .int i
theorem g_str {i : Str} {j pos} : GE X cm W (.Constant (.str i) j pos) (eK (.str i)) := g_const pe_str fun _ => .str i
theorem g_bl {b : Bool} {j pos} : GE X cm W (.Constant (.bool b) j pos) (eK (.bool b)) := g_const pe_bl fun _ => .bl b
theorem g_non {j pos} : GE X cm W (.Constant .none j pos) (eK .none) := g_const pe_non fun _ => .non
variable {a b c : Expr} {fa fb fc : Ex} {pos : Pos}
theorem g_op {op : Operator} {f : PyData → PyData → Option PyData} (o : Op2 X cm (binaryOp op) f) (ha : GE X cm W a fa) (hb : GE X cm W b fb) : GE X cm W (.BinOp a op b pos) (e2 (lift2 f) fa fb) := by
  obtain ⟨r, ho, hf⟩ := o
  refine pe_imp (pe_op ho ha hb) fun σ H Q ⟨p, ok, h⟩ => ⟨p, ok, (fin.bind h).imp (fun x S1 D1 H1 w s k v r1 => ?_) fun _ _ _ _ _ _ z => z⟩
  refine ⟨⟨p.A, S1, D1, p.Ow, p.Fr, p.ρ⟩, ok.on w s, (fin.bind k).imp (fun y S2 D2 H2 w2 s2 k2 u r2 => ?_) fun _ _ _ _ _ _ z => z⟩
  obtain ⟨a, b, c, h1, h2, h3, h4⟩ := lift2_inv k2
  exact hf _ _ _ _ _ _ _ _ _ _ _ w2 (view_dw w2 h1 (r1.mono s2)) (view_dw w2 h2 r2) h3 fun D' H' v w' s' hv => h4 D' H' w' s' v hv
theorem g_cmp {op : CmpOp} {f : PyData → PyData → Option PyData} (o : Op2 X cm (compareOp op) f) (ha : GE X cm W a fa) (hb : GE X cm W b fb) (hm : behindInMarks op b = false) : GE X cm W (.Compare a [op] [b] pos) (e2 (lift2 f) fa fb) := by
  obtain ⟨r, ho, hf⟩ := o
  refine pe_imp (pe_cmpR ho ha hb hm) fun σ H Q ⟨p, ok, h⟩ => ⟨p, ok, (fin.bind h).imp (fun x S1 D1 H1 w s k v r1 => ?_) fun _ _ _ _ _ _ z => z⟩
  refine ⟨⟨p.A, S1, D1, p.Ow, p.Fr, p.ρ⟩, ok.on w s, (fin.bind k).imp (fun y S2 D2 H2 w2 s2 k2 u r2 => ?_) fun _ _ _ _ _ _ z => z⟩
  obtain ⟨a, b, c, h1, h2, h3, h4⟩ := lift2_inv k2
  exact hf _ _ _ _ _ _ _ _ _ _ _ w2 (view_dw w2 h1 (r1.mono s2)) (view_dw w2 h2 r2) h3 fun D' H' v w' s' hv => h4 D' H' w' s' v hv
theorem toB_inv {cm : CM} {A : List Addr} {S : Sto} {D : Hp} {F : List (Addr × HO)} {x : Vl} {okP : Bool → Sto → Hp → Hp → Prop} {erP : Exn → Sto → Hp → Hp → Prop} (h : fin cm A F D (toB x S) okP erP) : ∃ b, x = .d (.bool b) ∧ ∀ D' H', Wd cm A S D' F H' → Same D D' → okP b S D' H' := by
  unfold toB at h
  split at h
  · exact ⟨_, rfl, h⟩
  · exact absurd h id
theorem gt_cmp {op : CmpOp} {f : PyData → PyData → Option PyData} (o : Op2 X cm (compareOp op) f) (ha : GE X cm W a fa) (hb : GE X cm W b fb) (hm : behindInMarks op b = false) : GT X cm W (.Compare a [op] [b] pos) (eTest (e2 (lift2 f) fa fb)) := by
  obtain ⟨r, ho, hf⟩ := o
  refine pt_imp (pt_cmpR ho ha hb hm) fun σ H Q ⟨p, ok, h⟩ => ⟨p, ok, (fin.bind (fin.bind h)).imp (fun x S1 D1 H1 w s k v r1 => ?_) fun _ _ _ _ _ _ z => z⟩
  refine ⟨⟨p.A, S1, D1, p.Ow, p.Fr, p.ρ⟩, ok.on w s, (fin.bind k).imp (fun y S2 D2 H2 w2 s2 k2 u r2 => ?_) fun _ _ _ _ _ _ z => z⟩
  obtain ⟨a, b, c, h1, h2, h3, h4⟩ := lift2_inv k2
  refine hf _ _ _ _ _ _ _ _ _ _ _ w2 (view_dw w2 h1 (r1.mono s2)) (view_dw w2 h2 r2) h3 fun D' H' v w' s' hv => ?_
  obtain ⟨t, e, h5⟩ := toB_inv (h4 D' H' w' s')
  cases e
  cases hv
  exact ⟨t, rfl, h5 D' H' w' (.refl _)⟩
/-- a value as a test -/
theorem gt_val {e : Expr} {f : Ex} (h : GE X cm W e f) (he : ∀ whole, isTrue e X.env whole = (do let v ← whole; standAt e.pos; holding [v] (truthy v)) := by intro _; rfl) : GT X cm W e (eTest f) :=
  pt_imp (pt_val h he) fun σ H Q ⟨p, ok, h⟩ => ⟨p, ok, (fin.bind h).imp (fun x S1 D1 H1 w s k v r1 => by
    obtain ⟨t, e, h5⟩ := toB_inv k
    cases e
    cases r1
    exact ⟨t, rfl, h5 D1 H1 w (.refl _)⟩) fun _ _ _ _ _ _ z => z⟩
theorem gt_not {f : Env → M Bool} (h : GT X cm W a f) : GT X cm W (.UnaryOp .Not a pos) (eNotT f) :=
  pt_imp (pt_not h) fun σ H Q ⟨p, ok, h⟩ => ⟨p, ok, (fin.bind h).imp (fun x S1 D1 H1 w s k => k D1 H1 w (.refl _)) fun _ _ _ _ _ _ z => z⟩
theorem eAnd_fin {p : Pk} {σ : L2.St} {H : Hp} {okP : Vl → Sto → Hp → Hp → Prop} {erP : Exn → Sto → Hp → Hp → Prop} (h : p.fin cm (eAnd fa fb p.ρ p.S) okP erP) :
    p.fin cm (fa p.ρ p.S) (fun x S1 D1 H1 => ∃ b, x = .d (.bool b) ∧ (b = true → fin cm p.A (p.Ow ++ p.Fr) D1 (fb p.ρ S1) okP erP) ∧ (b = false → ∀ D' H', Wd cm p.A S1 D' (p.Ow ++ p.Fr) H' → Same D1 D' → okP (.d (.bool false)) S1 D' H')) erP :=
  (fin.bind h).imp (fun x S1 D1 H1 w s k => by
    try dsimp only at k
    split at k
    · exact ⟨true, rfl, fun _ => k, fun z => nomatch z⟩
    · exact ⟨false, rfl, (fun z => nomatch z), fun _ => k⟩
    · exact absurd k id) fun _ _ _ _ _ _ z => z
theorem eOr_fin {p : Pk} {σ : L2.St} {H : Hp} {okP : Vl → Sto → Hp → Hp → Prop} {erP : Exn → Sto → Hp → Hp → Prop} (h : p.fin cm (eOr fa fb p.ρ p.S) okP erP) :
    p.fin cm (fa p.ρ p.S) (fun x S1 D1 H1 => ∃ b, x = .d (.bool b) ∧ (b = false → fin cm p.A (p.Ow ++ p.Fr) D1 (fb p.ρ S1) okP erP) ∧ (b = true → ∀ D' H', Wd cm p.A S1 D' (p.Ow ++ p.Fr) H' → Same D1 D' → okP (.d (.bool true)) S1 D' H')) erP :=
  (fin.bind h).imp (fun x S1 D1 H1 w s k => by
    try dsimp only at k
    split at k
    · exact ⟨true, rfl, (fun z => nomatch z), fun _ => k⟩
    · exact ⟨false, rfl, (fun _ => k), fun z => nomatch z⟩
    · exact absurd k id) fun _ _ _ _ _ _ z => z
theorem g_one {op} (h : GE X cm W a fa) : GE X cm W (.BoolOp op [a] pos) fa := pe_one h
theorem g_and {rest : List Expr} (ha : GE X cm W a fa) (hb : GE X cm W (.BoolOp .And (b :: rest) pos) fb) : GE X cm W (.BoolOp .And (a :: b :: rest) pos) (eAnd fa fb) :=
  pe_imp (pe_and ha hb) fun σ H Q ⟨p, ok, h⟩ => ⟨p, ok, (eAnd_fin (σ := σ) (H := H) h).imp (fun x S1 D1 H1 w s k v r1 => by
    obtain ⟨t, rfl, k1, k2⟩ := k
    cases r1
    refine ⟨t, rfl, ?_⟩
    cases t with
    | true => exact ⟨⟨p.A, S1, D1, p.Ow, p.Fr, p.ρ⟩, ok.on w s, k1 rfl⟩
    | false => exact k2 rfl D1 H1 w (.refl _) _ (.bl false)) fun _ _ _ _ _ _ z => z⟩
theorem g_or {rest : List Expr} (ha : GE X cm W a fa) (hb : GE X cm W (.BoolOp .Or (b :: rest) pos) fb) : GE X cm W (.BoolOp .Or (a :: b :: rest) pos) (eOr fa fb) :=
  pe_imp (pe_or ha hb) fun σ H Q ⟨p, ok, h⟩ => ⟨p, ok, (eOr_fin (σ := σ) (H := H) h).imp (fun x S1 D1 H1 w s k v r1 => by
    obtain ⟨t, rfl, k1, k2⟩ := k
    cases r1
    refine ⟨t, rfl, ?_⟩
    cases t with
    | false => exact ⟨⟨p.A, S1, D1, p.Ow, p.Fr, p.ρ⟩, ok.on w s, k1 rfl⟩
    | true => exact k2 rfl D1 H1 w (.refl _) _ (.bl true)) fun _ _ _ _ _ _ z => z⟩
def eNot (f : Ex) : Ex := fun ρ S => (f ρ S).bind fun x S1 => match x with
  | .d (.bool b) => .ok (.d (.bool !b)) S1
  | _ => .no
theorem g_not (ha : GE X cm W a fa) : GE X cm W (.UnaryOp .Not a pos) (eNot fa) :=
  pe_imp (pe_not ha) fun σ H Q ⟨p, ok, h⟩ => ⟨p, ok, (fin.bind h).imp (fun x S1 D1 H1 w s k v r1 => by
    try dsimp only at k
    split at k
    · cases r1
      exact ⟨_, rfl, k D1 H1 w (.refl _) _ (.bl _)⟩
    · exact absurd k id) fun _ _ _ _ _ _ z => z⟩
theorem g_if {fc : Env → M Bool} (hc : GT X cm W c fc) (ha : GE X cm W a fa) (hb : GE X cm W b fb) : GE X cm W (.IfExp c a b pos) (eIf fc fa fb) :=
  pe_imp (pe_ifExp hc ha hb) fun σ H Q ⟨p, ok, h⟩ => ⟨p, ok, (fin.bind h).imp (fun x S1 D1 H1 w s k => by
    try dsimp only at k
    cases x with
    | true => exact ⟨⟨p.A, S1, D1, p.Ow, p.Fr, p.ρ⟩, ok.on w s, k⟩
    | false => exact ⟨⟨p.A, S1, D1, p.Ow, p.Fr, p.ρ⟩, ok.on w s, k⟩) fun _ _ _ _ _ _ z => z⟩
/-- and, or as tests -/
def eAndT (a b : Env → M Bool) : Env → M Bool := fun ρ S => (a ρ S).bind fun x S1 => match x with
  | true => b ρ S1
  | false => .ok false S1
def eOrT (a b : Env → M Bool) : Env → M Bool := fun ρ S => (a ρ S).bind fun x S1 => match x with
  | true => .ok true S1
  | false => b ρ S1
abbrev GW (X : Cx) (cm : CM) (W : WX) (e : Expr) (f : Env → M Bool) : Prop := PW X e (tT cm W f)
theorem pw_imp {e : Expr} {t t' : TT} (h : PW X e t) (k : ∀ σ H Q, t' σ H Q → t σ H Q) : PW X e t' := ⟨fun wh pins s σ H Q I q => h.run wh pins s σ H Q I (k _ _ _ q)⟩
variable {ta tb : Env → M Bool} {rest : List Expr}
theorem gw_pt (h : GW X cm W a ta) : GT X cm W a ta := h.pt
theorem gw_and1 (h : GT X cm W a ta) : GW X cm W (.BoolOp .And [a] pos) ta := pw_and1 h
theorem gw_or1 (h : GT X cm W a ta) : GW X cm W (.BoolOp .Or [a] pos) ta := pw_or1 h
theorem gw_and (ha : GT X cm W a ta) (hb : GW X cm W (.BoolOp .And (b :: rest) pos) tb) : GW X cm W (.BoolOp .And (a :: b :: rest) pos) (eAndT ta tb) :=
  pw_imp (pw_and ha hb) fun σ H Q ⟨p, ok, h⟩ => ⟨p, ok, (fin.bind h).imp (fun x S1 D1 H1 w s k => by
    cases x with
    | true => exact ⟨⟨p.A, S1, D1, p.Ow, p.Fr, p.ρ⟩, ok.on w s, k⟩
    | false => exact k D1 H1 w (.refl _)) fun _ _ _ _ _ _ z => z⟩
theorem gw_or (ha : GT X cm W a ta) (hb : GW X cm W (.BoolOp .Or (b :: rest) pos) tb) : GW X cm W (.BoolOp .Or (a :: b :: rest) pos) (eOrT ta tb) :=
  pw_imp (pw_or ha hb) fun σ H Q ⟨p, ok, h⟩ => ⟨p, ok, (fin.bind h).imp (fun x S1 D1 H1 w s k => by
    cases x with
    | false => exact ⟨⟨p.A, S1, D1, p.Ow, p.Fr, p.ρ⟩, ok.on w s, k⟩
    | true => exact k D1 H1 w (.refl _)) fun _ _ _ _ _ _ z => z⟩
/-! ## lists of expressions -/
variable {es : List Expr} {fs : Exs}
theorem ga_nil : GA X cm W [] asNil := pa_imp pa_nil fun σ H Q ⟨p, ok, h⟩ => h p.D H ok.wd (.refl _) [] .nil
theorem ga_cons (ha : GE X cm W a fa) (hr : GA X cm W es fs) (hs : starEach (a :: es) X.env = (false, eval a X.env) :: starEach es X.env := by rfl) : GA X cm W (a :: es) (asCons fa fs) :=
  pa_imp (pa_cons ha hr hs) fun σ H Q ⟨p, ok, h⟩ => ⟨p, ok, (fin.bind h).imp (fun x S1 D1 H1 w s k v r1 =>
    ⟨⟨p.A, S1, D1, p.Ow, p.Fr, p.ρ⟩, ok.on w s, (fin.bind k).imp (fun xs S2 D2 H2 w2 s2 k2 vs r2 => k2 D2 H2 w2 (.refl _) (v :: vs) (.cons (r1.mono s2) r2)) fun _ _ _ _ _ _ z => z⟩) fun _ _ _ _ _ _ z => z⟩
theorem datas_dv {cm : CM} {A : List Addr} {D : Hp} {Ow : List (Addr × HO)} : ∀ {xs : List Vl} {vs : List V} {ds : List PyData}, datas xs = some ds → VRs cm A D Ow xs vs → DvA cm D vs ds
  | [], _, _, e, h => by cases h; cases e; exact .nil
  | .d x :: r, _, _, e, h => by
    cases h with
    | cons h1 h2 =>
      unfold datas at e
      split at e
      · rename_i xs e2
        cases e
        exact .cons h1 (datas_dv e2 h2)
      · cases e
  | .c _ :: _, _, _, e, _ => by cases e
  | .o _ :: _, _, _, e, _ => by cases e
theorem mkTup_inv {cm : CM} {A : List Addr} {S : Sto} {D : Hp} {F : List (Addr × HO)} {xs : List Vl} {okP : Vl → Sto → Hp → Hp → Prop} {erP : Exn → Sto → Hp → Hp → Prop} (h : fin cm A F D (mkTup xs S) okP erP) : ∃ ds, datas xs = some ds ∧ ds.length ≤ big ∧ ∀ D' H', Wd cm A S D' F H' → Same D D' → okP (.d (.tuple ds)) S D' H' := by
  unfold mkTup at h
  split at h
  · split at h
    · exact ⟨_, ‹_›, ‹_›, h⟩
    · exact absurd h id
  · exact absurd h id
theorem mkLst_inv {cm : CM} {A : List Addr} {S : Sto} {D : Hp} {F : List (Addr × HO)} {xs : List Vl} {okP : Vl → Sto → Hp → Hp → Prop} {erP : Exn → Sto → Hp → Hp → Prop} (h : fin cm A F D (mkLst xs S) okP erP) : ∃ ds, datas xs = some ds ∧ ds.length ≤ big ∧ ∀ D' H', Wd cm A S D' F H' → Same D D' → okP (.d (.list ds)) S D' H' := by
  unfold mkLst at h
  split at h
  · split at h
    · exact ⟨_, ‹_›, ‹_›, h⟩
    · exact absurd h id
  · exact absurd h id
theorem g_tup {x1} (h : GA X cm W es fs) : GE X cm W (.Tuple es x1 pos) (eArgs mkTup fs) :=
  pe_imp (pe_tup h) fun σ H Q ⟨p, ok, h⟩ => ⟨p, ok, (fin.bind h).imp (fun xs S1 D1 H1 w s k vs r1 => by
    obtain ⟨ds, e, hl, k2⟩ := mkTup_inv k
    have hd := datas_dv e r1
    refine ⟨by rw [hd.length]; exact Nat.le_of_lt (big_le hl), fun q nq => ?_⟩
    obtain ⟨w', s'⟩ := w.new nq (.tup vs)
    exact k2 _ _ w' s' _ (.tup upd_same (hd.mono s'))) fun _ _ _ _ _ _ z => z⟩
theorem g_lst (h : GA X cm W es fs) : GE X cm W (.List es pos) (eArgs mkLst fs) :=
  pe_imp (pe_lst h) fun σ H Q ⟨p, ok, h⟩ => ⟨p, ok, (fin.bind h).imp (fun xs S1 D1 H1 w s k vs r1 => by
    obtain ⟨ds, e, hl, k2⟩ := mkLst_inv k
    have hd := datas_dv e r1
    refine ⟨by rw [hd.length]; exact Nat.le_of_lt (big_le hl), fun q nq => ?_⟩
    obtain ⟨w', s'⟩ := w.new nq (.lst vs)
    exact k2 _ _ w' s' _ (.lst upd_same (hd.mono s'))) fun _ _ _ _ _ _ z => z⟩
/-! ## built-ins -/
def Ca (X : Cx) (cm : CM) (g : Value) (f : List PyData → Option PyData) : Prop := ∃ r, CallR X g r ∧ CaF cm r f
variable {e : Expr} {x : Str} {p : Pos}
theorem liftA_k {p : Pk} {σ : L2.St} {f : List PyData → Option PyData} {r : List V → Hp → VK → Prop} (hf : CaF cm r f) {xs : List Vl} {S1 : Sto} {D1 H1 : Hp} {vs : List V} {Q : VK} (w : Wd cm p.A S1 D1 (p.Ow ++ p.Fr) H1) (r1 : VRs cm p.A D1 p.Ow xs vs)
    (k : fin cm p.A (p.Ow ++ p.Fr) D1 (liftA f xs S1) (fun x _ D' H' => ∀ v, VR cm p.A D' p.Ow x v → Q v H') (erW cm W σ)) : r vs H1 Q := by
  obtain ⟨as, c, h1, h2, h3⟩ := liftA_inv k
  exact hf _ _ _ _ _ _ _ _ _ w (views_dw w h1 r1) h2 fun D' H' v w' s' hv => h3 D' H' w' s' v hv
theorem g_callB {id : String} {f : List PyData → Option PyData} (hc : Ca X cm (.builtin id) f) (hm : X.mg x = none) (ha : GA X cm W (e :: es) fs) (hg : Gl X x := by rfl) (hv : bootBuiltins x = some (.builtin id) := by decide +kernel) (hn : x ≠ "__name__" := by decide) (hdb : (x == ("__debug__" : Str)) = false := by decide)
    (he : starEach (e :: es) X.env = (false, eval e X.env) :: starEach es X.env := by rfl) (hpl : (backTo pos (starEach es X.env)).any (·.1) = false := by rfl) : GE X cm W (.Call (.Name x p) (e :: es) [] pos) (eArgs (liftA f) fs) := by
  obtain ⟨r, h1, h2⟩ := hc
  exact pe_imp (pe_callB h1 hg hm hv ha hn hdb he hpl) fun σ H Q ⟨p, ok, h⟩ => ⟨p, ok, (fin.bind h).imp (fun xs S1 D1 H1 w s k vs r1 => liftA_k h2 w r1 k) fun _ _ _ _ _ _ z => z⟩
theorem g_callTy {T : String} {f : List PyData → Option PyData} (hc : Ca X cm (.type T) f) (hm : X.mg x = none) (ha : GA X cm W (e :: es) fs) (hg : Gl X x := by rfl) (hv : bootBuiltins x = some (.type T) := by decide +kernel) (hn : x ≠ "__name__" := by decide) (hdb : (x == ("__debug__" : Str)) = false := by decide)
    (he : starEach (e :: es) X.env = (false, eval e X.env) :: starEach es X.env := by rfl) (hpl : (backTo pos (starEach es X.env)).any (·.1) = false := by rfl) : GE X cm W (.Call (.Name x p) (e :: es) [] pos) (eArgs (liftA f) fs) := by
  obtain ⟨r, h1, h2⟩ := hc
  exact pe_imp (pe_callTy h1 hg hm hv ha hn hdb he hpl) fun σ H Q ⟨p, ok, h⟩ => ⟨p, ok, (fin.bind h).imp (fun xs S1 D1 H1 w s k vs r1 => liftA_k h2 w r1 k) fun _ _ _ _ _ _ z => z⟩
/-! ## one of several -/
def Ix2 (X : Cx) (cm : CM) (f : PyData → PyData → Option PyData) : Prop := ∃ r, IxR X r ∧ OpF cm r f
theorem g_ix {f : PyData → PyData → Option PyData} (o : Ix2 X cm f) (ha : GE X cm W a fa) (hb : GE X cm W b fb) (hs : PlainIx b := by exact fun _ _ => rfl) : GE X cm W (.Subscript a b pos) (e2 (lift2 f) fa fb) := by
  obtain ⟨r, ho, hf⟩ := o
  refine pe_imp (pe_ix ho ha hb hs) fun σ H Q ⟨p, ok, h⟩ => ⟨p, ok, (fin.bind h).imp (fun x S1 D1 H1 w s k v r1 => ?_) fun _ _ _ _ _ _ z => z⟩
  refine ⟨⟨p.A, S1, D1, p.Ow, p.Fr, p.ρ⟩, ok.on w s, (fin.bind k).imp (fun y S2 D2 H2 w2 s2 k2 u r2 => ?_) fun _ _ _ _ _ _ z => z⟩
  obtain ⟨a, b, c, h1, h2, h3, h4⟩ := lift2_inv k2
  exact hf _ _ _ _ _ _ _ _ _ _ _ w2 (view_dw w2 h1 (r1.mono s2)) (view_dw w2 h2 r2) h3 fun D' H' v w' s' hv => h4 D' H' w' s' v hv
end
end Sm

set_option maxHeartbeats 4000000
namespace Sm
open PySem PySem.Spec PyProof.Rows L2 Lf

/-! ## targets -/
inductive Tg where
  | n (i : Nat)
  | t (ps : List Tg)
mutual
def asg : Tg → PyData → Env → Option Env
  | .n i, d, ρ => some (ρ.set i (some (.d d)))
  | .t ps, .tuple ds, ρ => asgs ps ds ρ
  | .t ps, .list ds, ρ => asgs ps ds ρ
  | .t _, _, _ => none
def asgs : List Tg → List PyData → Env → Option Env
  | [], [], ρ => some ρ
  | p :: ps, d :: ds, ρ => match asg p d ρ with
    | some ρ' => asgs ps ds ρ'
    | none => none
  | _, _, _ => none
end
mutual
def Tg.slots : Tg → List Nat
  | .n i => [i]
  | .t ps => slotsL ps
def slotsL : List Tg → List Nat
  | [] => []
  | p :: ps => p.slots ++ slotsL ps
end
/-- all but these slots are as they were -/
structure But (is : List Nat) (σ σ' : L2.St) : Prop where
  len : σ'.length = σ.length
  at' : ∀ i, i ∉ is → σ'[i]? = σ[i]?
theorem But.refl {is : List Nat} {σ : L2.St} : But is σ σ := ⟨rfl, fun _ _ => rfl⟩
theorem But.set {i : Nat} {σ : L2.St} {v : Option V} : But [i] σ (σ.set i v) := ⟨List.length_set, fun j h => List.getElem?_set_ne (fun z => h (by rw [z]; exact List.mem_singleton.mpr rfl))⟩
theorem But.trans {is js : List Nat} {σ σ1 σ2 : L2.St} (h : But is σ σ1) (k : But js σ1 σ2) : But (is ++ js) σ σ2 := ⟨k.len.trans h.len, fun i hi => (k.at' i fun z => hi (List.mem_append_right _ z)).trans (h.at' i fun z => hi (List.mem_append_left _ z))⟩
def tG (cm : CM) (pt : Tg) : TG := fun v σ H Q => ∃ (p : Pk) (d : PyData) (ρ' : Env), p.Ok cm σ H ∧ Dv cm p.D v d ∧ asg pt d p.ρ = some ρ' ∧ ∀ σ', Er cm p.A p.D p.Ow ρ' σ' → But pt.slots σ σ' → Q σ' H
def tGs (cm : CM) (pts : List Tg) : TGs := fun vs σ H Q => ∃ (p : Pk) (ds : List PyData) (ρ' : Env), p.Ok cm σ H ∧ DvA cm p.D vs ds ∧ asgs pts ds p.ρ = some ρ' ∧ ∀ σ', Er cm p.A p.D p.Ow ρ' σ' → But (slotsL pts) σ σ' → Q σ' H
abbrev GG (X : Cx) (cm : CM) (tg : Expr) (pt : Tg) : Prop := PG X tg (tG cm pt)
abbrev GGs (X : Cx) (cm : CM) (tgs : List Expr) (pts : List Tg) : Prop := PGs X tgs (tGs cm pts)
section
variable {cm : CM} {A : List Addr} {S : Sto} {D : Hp} {F Ow Fr : List (Addr × HO)} {H : Hp} {ρ : Env} {σ : L2.St} {x : Vl} {v : V}
/-- a name holds another value -/
theorem Er.set {i : Nat} (h : Er cm A D Ow ρ σ) (r : VR cm A D Ow x v) (nx : ∀ ds, x ≠ .o ds) : Er cm A D Ow (ρ.set i (some x)) (σ.set i (some v)) := by
  refine ⟨by rw [List.length_set, List.length_set]; exact h.len, fun j y e => ?_, fun j k a hjk h1 h2 e1 e2 => ?_⟩
  · rw [List.getElem?_set] at e ⊢
    by_cases hij : i = j
    · rw [if_pos hij] at e ⊢
      split at e
      · rename_i hl
        cases e
        exact ⟨v, by rw [if_pos (by have := h.len; omega)], r⟩
      · cases e
    · rw [if_neg hij] at e ⊢
      exact h.at' j y e
  · have key : ∀ m, isOwn (ρ.set i (some x))[m]? = true → m ≠ i ∧ isOwn ρ[m]? = true := fun m hm => by
      rw [List.getElem?_set] at hm
      by_cases hij : i = m
      · rw [if_pos hij] at hm
        split at hm
        · cases x with
          | o ds => exact absurd rfl (nx ds)
          | d _ => cases hm
          | c _ => cases hm
        · cases hm
      · rw [if_neg hij] at hm
        exact ⟨fun z => hij z.symm, hm⟩
    obtain ⟨n1, o1⟩ := key j h1
    obtain ⟨n2, o2⟩ := key k h2
    rw [List.getElem?_set_ne n1.symm] at e1
    rw [List.getElem?_set_ne n2.symm] at e2
    exact h.ne j k a hjk o1 o2 e1 e2
/-- a name is forgotten -/
theorem Er.unset {i : Nat} {o : Option V} (h : Er cm A D Ow ρ σ) : Er cm A D Ow (ρ.set i none) (σ.set i o) := by
  refine ⟨by rw [List.length_set, List.length_set]; exact h.len, fun j y e => ?_, fun j k a hjk h1 h2 e1 e2 => ?_⟩
  · rw [List.getElem?_set] at e ⊢
    by_cases hij : i = j
    · rw [if_pos hij] at e
      split at e <;> cases e
    · rw [if_neg hij] at e ⊢
      exact h.at' j y e
  · have key : ∀ m, isOwn (ρ.set i none)[m]? = true → m ≠ i ∧ isOwn ρ[m]? = true := fun m hm => by
      rw [List.getElem?_set] at hm
      by_cases hij : i = m
      · rw [if_pos hij] at hm
        split at hm <;> cases hm
      · rw [if_neg hij] at hm
        exact ⟨fun z => hij z.symm, hm⟩
    obtain ⟨n1, o1⟩ := key j h1
    obtain ⟨n2, o2⟩ := key k h2
    rw [List.getElem?_set_ne n1.symm] at e1
    rw [List.getElem?_set_ne n2.symm] at e2
    exact h.ne j k a hjk o1 o2 e1 e2
end
section
variable {X : Cx} {cm : CM} {W : WX} {pos : Pos} {e : Expr} {es : List Expr}
theorem gg_name {i : Nat} {x : Str} (hN : X.N.Nodup) (hi : X.N[i]? = some x) (hx : Loc X.env.scope x) (hf : X.fn x = true ∨ X.env.scope.names.lookup x = some .local := by first | exact .inl rfl | exact .inr rfl | assumption) : GG X cm (.Name x pos) (.n i) := by
  have g := pg_name (pos := pos) hN hi hx hf
  refine ⟨fun pins s σ H v u Q I r h => g.run pins s σ H v u Q I r ?_⟩
  obtain ⟨p, d, ρ', ok, hd, e, q⟩ := h
  cases e
  exact q _ (ok.er.set hd fun ds z => nomatch z) .set
theorem ggs_nil : GGs X cm [] [] := ⟨fun pins s σ H vs us Q I r h => pgs_nil.run pins s σ H vs us Q I r (by
  obtain ⟨p, ds, ρ', ok, hd, e, q⟩ := h
  cases ds with
  | nil => cases hd; cases e; exact ⟨rfl, q σ ok.er .refl⟩
  | cons d ds => simp [asgs] at e)⟩
theorem ggs_cons {pt : Tg} {pts : List Tg} (h1 : GG X cm e pt) (h2 : GGs X cm es pts) (hs : (assignEach (e :: es) X.env).map (·.2) = assign e X.env :: (assignEach es X.env).map (·.2) := by rfl) : GGs X cm (e :: es) (pt :: pts) := by
  have g := pgs_cons h1 h2 hs
  refine ⟨fun pins s σ H vs us Q I r h => g.run pins s σ H vs us Q I r ?_⟩
  obtain ⟨p, ds, ρ', ok, hd, e, q⟩ := h
  cases ds with
  | nil => simp [asgs] at e
  | cons d ds =>
    cases hd with
    | cons hd1 hd2 =>
      unfold asgs at e
      cases e1 : asg pt d p.ρ with
      | none => rw [e1] at e; cases e
      | some ρ1 =>
        rw [e1] at e
        exact ⟨_, _, rfl, p, d, ρ1, ok, hd1, e1, fun σ1 k b => ⟨⟨p.A, p.S, p.D, p.Ow, p.Fr, ρ1⟩, ds, ρ', ⟨ok.wd, k⟩, hd2, e, fun σ2 k2 b2 => q σ2 k2 (b.trans b2)⟩⟩
theorem asgs_len : ∀ {pts : List Tg} {ds : List PyData} {ρ ρ' : Env}, asgs pts ds ρ = some ρ' → ds.length = pts.length
  | [], [], _, _, _ => rfl
  | [], _ :: _, _, _, e => by simp [asgs] at e
  | _ :: _, [], _, _, e => by simp [asgs] at e
  | p :: ps, d :: ds, ρ, ρ', e => by
    unfold asgs at e
    cases e1 : asg p d ρ with
    | none => rw [e1] at e; cases e
    | some ρ1 => rw [e1] at e; exact congrArg (· + 1) (asgs_len e)
theorem gg_tup {k : Nat} {pts : List Tg} (hc : X.calm = true) (h : GGs X cm es pts) (hn : (assignEach es X.env).length = pts.length := by rfl) (hst : (assignEach es X.env).findIdx? (·.1) = none := by rfl) : GG X cm (.Tuple es k pos) (.t pts) := by
  refine ⟨fun pins s σ H v u Q I r h' => ?_⟩
  obtain ⟨p, d, ρ', ok, hd, e, q⟩ := h'
  cases d with
  | tuple ds =>
    have e' : asgs pts ds p.ρ = some ρ' := by simpa only [asg] using e
    have hl := asgs_len e'
    cases hd with
    | @tup a xs _ h1 h2 => exact (pg_tup (pos := pos) (k := k) hc h hn hst).run pins s σ H _ u Q I r ⟨a, xs, rfl, .of (ok.wd.sub _ _ h1), by rw [h2.length, hl], p, ds, ρ', ok, h2, e', q⟩
  | list ds =>
    have e' : asgs pts ds p.ρ = some ρ' := by simpa only [asg] using e
    have hl := asgs_len e'
    cases hd with
    | @lst a xs _ h1 h2 => exact (pg_lst (pos := pos) (k := k) hc h hn hst).run pins s σ H _ u Q I r ⟨a, xs, rfl, .of (ok.wd.sub _ _ h1), by rw [h2.length, hl], p, ds, ρ', ok, h2, e', q⟩
  | none => simp [asg] at e
  | bool _ => simp [asg] at e
  | int _ => simp [asg] at e
  | str _ => simp [asg] at e
  | dict _ => simp [asg] at e
end

/-! ## statements -/
def sE (r : R Vl) (ρ : Env) (k : Vl → Sto → Option (Out × Env × Sto)) : Option (Out × Env × Sto) := match r with
  | .ok x S => k x S
  | .er e S => some (.er e, ρ, S)
  | .no => none
def sRet (e : Ex) : Sx := fun ρ S => sE (e ρ S) ρ fun x S1 => some (.rt x, ρ, S1)
def sRetN : Sx := fun ρ S => some (.rt (.d .none), ρ, S)
def sExpr (e : Ex) : Sx := fun ρ S => sE (e ρ S) ρ fun _ S1 => some (.nx, ρ, S1)
def notO : Vl → Bool
  | .o _ => false
  | _ => true
def sSet (i : Nat) (e : Ex) : Sx := fun ρ S => sE (e ρ S) ρ fun x S1 => if notO x then some (.nx, ρ.set i (some x), S1) else none
/-- a target that takes data apart -/
def sAsg (pt : Tg) (e : Ex) : Sx := fun ρ S => sE (e ρ S) ρ fun x S1 => match x with
  | .d d => match asg pt d ρ with
    | some ρ' => some (.nx, ρ', S1)
    | none => none
  | _ => none
def sNil : Sx := fun ρ S => some (.nx, ρ, S)
def sSeq (a b : Sx) : Sx := fun ρ S => match a ρ S with
  | some (.nx, ρ', S') => b ρ' S'
  | some r => some r
  | none => none
def sIf (c : Env → M Bool) (a b : Sx) : Sx := fun ρ S => match c ρ S with
  | .ok true S1 => a ρ S1
  | .ok false S1 => b ρ S1
  | .er e S1 => some (.er e, ρ, S1)
  | .no => none
def sBreak : Sx := fun ρ S => some (.bk, ρ, S)
def sCont : Sx := fun ρ S => some (.ct, ρ, S)
section
variable {cm : CM} {W : WX} {p : Pk} {σ : L2.St} {H : Hp} {P : Out → Pk → L2.St → Hp → Prop}
/-- an expression within a statement -/
theorem finE {r : R Vl} {k : Vl → Sto → Option (Out × Env × Sto)} {okQ : Vl → Sto → Hp → Hp → Prop} (ok : p.Ok cm σ H) (h : finS cm p (sE r p.ρ k) P)
    (hok : ∀ x S1 D1 H1, r = .ok x S1 → Pk.Ok cm ⟨p.A, S1, D1, p.Ow, p.Fr, p.ρ⟩ σ H1 → Same p.D D1 → finS cm ⟨p.A, S1, D1, p.Ow, p.Fr, p.ρ⟩ (k x S1) P → okQ x S1 D1 H1)
    (her : ∀ e S1 D1 H1, P (.er e) ⟨p.A, S1, D1, p.Ow, p.Fr, p.ρ⟩ σ H1 → erW cm W σ e S1 D1 H1) : p.fin cm r okQ (erW cm W σ) := by
  cases r with
  | ok x S1 =>
    intro D1 H1 w s
    refine hok x S1 D1 H1 rfl (ok.on w s) s ?_
    have h' : finS cm p (k x S1) P := h
    cases e : k x S1 with
    | none => rw [e] at h'; exact h'
    | some t =>
      rw [e] at h'
      exact fun D' Ow' σ' H' ok' s' => h' D' Ow' σ' H' ok' (s.trans s')
  | er e S1 => exact fun D1 H1 w s => her e S1 D1 H1 (h D1 p.Ow σ H1 (ok.on w s) s)
  | no => exact h
end
section
variable {X : Cx} {cm : CM} {W : WX} {pos : Pos} {e : Expr} {f : Ex}
theorem gs_ret (he : GE X cm W e f) : GS X cm W (.Return (some e) pos) (sRet f) :=
  ps_imp (ps_ret he) fun D σ H ⟨p, ok, h⟩ => ⟨p, ok, finE (W := W) (okQ := fun x S1 D1 H1 => ∀ v, VR cm p.A D1 p.Ow x v → D.rt v H1) ok h (fun x S1 D1 H1 _ ok1 s k => k D1 p.Ow σ H1 ok1 (.refl _)) fun e S1 D1 H1 z => z⟩
theorem gs_retN : GS X cm W (.Return none pos) sRetN := ps_imp ps_retN fun D σ H ⟨p, ok, h⟩ => h p.D p.Ow σ H ok (.refl _) .non .non
theorem gs_pass : GS X cm W (.Pass pos) sNil := ps_imp ps_pass fun D σ H ⟨p, ok, h⟩ => h p.D p.Ow σ H ok (.refl _)
theorem gs_break : GS X cm W (.Break pos) sBreak := ps_imp ps_break fun D σ H ⟨p, ok, h⟩ => h p.D p.Ow σ H ok (.refl _)
theorem gs_cont : GS X cm W (.Continue pos) sCont := ps_imp ps_continue fun D σ H ⟨p, ok, h⟩ => h p.D p.Ow σ H ok (.refl _)
theorem gs_doc {x j pos pos'} : GS X cm W (.Expr (.Constant (.str x) j pos) pos') sNil := ps_imp ps_doc fun D σ H ⟨p, ok, h⟩ => h p.D p.Ow σ H ok (.refl _)
theorem gs_expr (he : GE X cm W e f) (hs : swapsWith e none pos.line X.env = pure false := by rfl) : GS X cm W (.Expr e pos) (sExpr f) :=
  ps_imp (ps_expr he hs) fun D σ H ⟨p, ok, h⟩ => ⟨p, ok, finE (W := W) (okQ := fun x S1 D1 H1 => ∀ v, VR cm p.A D1 p.Ow x v → D.nx σ H1) ok h (fun x S1 D1 H1 _ ok1 s k v _ => k D1 p.Ow σ H1 ok1 (.refl _)) fun e S1 D1 H1 z => z⟩
theorem gs_set {i : Nat} {x : Str} {pos' : Pos} (hN : X.N.Nodup) (hi : X.N[i]? = some x) (hx : Loc X.env.scope x) (he : GE X cm W e f) (hs : swapsWith e (some (.Name x pos')) pos.line X.env = pure false := by rfl) (hf : X.fn x = true ∨ X.env.scope.names.lookup x = some .local := by first | exact .inl rfl | exact .inr rfl | assumption) :
    GS X cm W (.Assign [.Name x pos'] e pos) (sSet i f) :=
  ps_imp (ps_set hN hi hx he hs hf) fun D σ H ⟨p, ok, h⟩ => ⟨p, ok, finE (W := W) (okQ := fun x S1 D1 H1 => ∀ v, VR cm p.A D1 p.Ow x v → D.nx (σ.set i (some v)) H1) ok h (fun x S1 D1 H1 _ ok1 s k v r => by
    split at k
    · rename_i hn
      exact k D1 p.Ow _ H1 ⟨ok1.wd, ok1.er.set r fun ds z => by subst z; cases hn⟩ (.refl _)
    · exact absurd k id) fun e S1 D1 H1 z => z⟩
theorem gs_asg {tg : Expr} {pt : Tg} (he : GE X cm W e f) (hg : GG X cm tg pt) (hs : swapsWithSole [tg] e pos.line X.env = pure false := by rfl) (hw : swappedStores [tg] e X.env = pure none := by rfl)
    (h1 : (assignEach [tg] X.env).map (·.2) = [assign tg X.env] := by rfl) : GS X cm W (.Assign [tg] e pos) (sAsg pt f) :=
  ps_imp (ps_asg he hg hs hw h1) fun D σ H ⟨p, ok, h⟩ => ⟨p, ok, finE (W := W) (okQ := fun x S1 D1 H1 => ∀ v, VR cm p.A D1 p.Ow x v → tG cm pt v σ H1 D.nx) ok h (fun x S1 D1 H1 _ ok1 s k v r => by
    split at k
    · split at k
      · rename_i d ρ' e
        exact ⟨⟨p.A, S1, D1, p.Ow, p.Fr, p.ρ⟩, _, ρ', ok1, r, e, fun σ' er' _ => k D1 p.Ow σ' H1 ⟨ok1.wd, er'⟩ (.refl _)⟩
      · exact absurd k id
    · exact absurd k id) fun e S1 D1 H1 z => z⟩
variable {st : Stmt} {rest : List Stmt} {a b : Sx}
theorem gss_nil : GSs X cm W [] sNil := pss_imp pss_nil fun D σ H ⟨p, ok, h⟩ => h p.D p.Ow σ H ok (.refl _)
theorem gss_one (h : GS X cm W st a) : GSs X cm W [st] a := pss_one h
theorem gss_cons (h1 : GS X cm W st a) (h2 : GSs X cm W rest b) : GSs X cm W (st :: rest) (sSeq a b) :=
  pss_imp (pss_cons h1 h2) fun D σ H ⟨p, ok, h⟩ => by
    refine ⟨p, ok, ?_⟩
    unfold sSeq at h
    cases e : a p.ρ p.S with
    | none => rw [e] at h; exact h
    | some t =>
      obtain ⟨o, ρ1, S1⟩ := t
      rw [e] at h
      intro D1 Ow1 σ1 H1 ok1 s1
      cases o with
      | nx =>
        refine ⟨_, ok1, ?_⟩
        have h' : finS cm p (b ρ1 S1) _ := h
        cases e2 : b ρ1 S1 with
        | none => rw [e2] at h'; exact h'
        | some t2 =>
          rw [e2] at h'
          exact fun D' Ow' σ' H' ok' s' => h' D' Ow' σ' H' ok' (s1.trans s')
      | rt x => exact h D1 Ow1 σ1 H1 ok1 s1
      | bk => exact h D1 Ow1 σ1 H1 ok1 s1
      | ct => exact h D1 Ow1 σ1 H1 ok1 s1
      | er x => exact h D1 Ow1 σ1 H1 ok1 s1
theorem gs_if {c : Expr} {fc : Env → M Bool} {as bs : List Stmt} (hc : GT X cm W c fc) (ha : GSs X cm W as a) (hb : GSs X cm W bs b) : GS X cm W (.If c as bs pos) (sIf fc a b) :=
  ps_imp (ps_if hc ha hb) fun D σ H ⟨p, ok, h⟩ => by
    refine ⟨p, ok, ?_⟩
    unfold sIf at h
    cases e : fc p.ρ p.S with
    | no => rw [e] at h; exact absurd h id
    | er x S1 => rw [e] at h; exact fun D1 H1 w s => h D1 p.Ow σ H1 (ok.on w s) s
    | ok t S1 =>
      rw [e] at h
      intro D1 H1 w s
      have key : ∀ g : Sx, finS cm p (g p.ρ S1) (fun o q σ' H' => outP cm W D o q σ' H') → tS cm W g D σ H1 := fun g hg => by
        refine ⟨⟨p.A, S1, D1, p.Ow, p.Fr, p.ρ⟩, ok.on w s, ?_⟩
        show finS cm _ (g p.ρ S1) _
        cases e2 : g p.ρ S1 with
        | none => rw [e2] at hg; exact hg
        | some t2 =>
          rw [e2] at hg
          exact fun D' Ow' σ' H' ok' s' => hg D' Ow' σ' H' ok' (s.trans s')
      cases t with
      | true => exact key _ h
      | false => exact key _ h
end
end Sm

set_option maxHeartbeats 4000000
namespace Sm
open PySem PySem.Spec PyProof.Rows L2 Lf

/-! ## what is walked -/
abbrev Ix := Env → M (List PyData)
def GH (cm : CM) (D0 : Hp) : Hp → Prop := fun H => ∃ A S D F, Wd cm A S D F H ∧ Same D0 D
def YH (cm : CM) (D0 : Hp) (ds : List PyData) : Nat → Hp → V → Hp → Prop := fun i H x H' => ∀ A S D F, Wd cm A S D F H → Same D0 D → ∃ D' d, ds[i]? = some d ∧ Wd cm A S D' F H' ∧ Same D D' ∧ Dv cm D' x d
/-- the iterator gives these data, one behind another -/
def Yl (cm : CM) (J : It) (D0 : Hp) (ds : List PyData) : Prop := Walk J ds.length (GH cm D0) (YH cm D0 ds)
def tI (cm : CM) (W : WX) (f : Ix) : TI := fun σ H R => ∃ p : Pk, p.Ok cm σ H ∧ p.fin cm (f p.ρ p.S) (fun ds _ D' H' => ∀ J, Yl cm J D' ds → R J H') (erW cm W σ)
abbrev GI (X : Cx) (cm : CM) (W : WX) (tg : Expr) (e : Expr) (f : Ix) : Prop := PI X tg e (tI cm W f)
theorem pi_imp {X : Cx} {tg e : Expr} {t t' : TI} (h : PI X tg e t) (k : ∀ σ H R, t' σ H R → t σ H R) : PI X tg e t' := ⟨fun pins s σ H R I q => h.run pins s σ H R I (k _ _ _ q)⟩
def seqOf : Vl → M (List PyData)
  | .d (.list ds) => fun S => .ok ds S
  | .d (.tuple ds) => fun S => .ok ds S
  | _ => fun _ => .no
def iSq (f : Ex) : Ix := fun ρ S => (f ρ S).bind seqOf
def rangeL (lo : Int) (n : Nat) : List PyData := (List.range n).map fun i => .int (lo + (i : Nat))
def rng1 : List Vl → M (List PyData)
  | [.d (.int j)] => fun S => if -1000000 ≤ j ∧ j ≤ 1000000 then .ok (rangeL 0 j.toNat) S else .no
  | _ => fun _ => .no
def rng2 : List Vl → M (List PyData)
  | [.d (.int i), .d (.int j)] => fun S => if -1000000 ≤ i ∧ i ≤ 1000000 ∧ -1000000 ≤ j ∧ j ≤ 1000000 then .ok (rangeL i (j - i).toNat) S else .no
  | _ => fun _ => .no
def iArgs (g : List Vl → M (List PyData)) (f : Exs) : Ix := fun ρ S => (f ρ S).bind g
section
variable {cm : CM} {D0 : Hp} {ds : List PyData}
theorem yl_list {K : PySem.W.Frag} {a : Addr} {xs : List V} (h : D0 a = some (.lst xs)) (hd : DvA cm D0 xs ds) : Yl cm (Itl K a) D0 ds := by
  have w := walk_list (K := K) (a := a) (xs := xs)
  rw [show xs.length = ds.length from hd.length] at w
  refine w.mono (fun H ⟨A, S, D, F, wd, s⟩ => .of (wd.sub _ _ (s _ _ h))) fun i H x H' hi _ y A S D F wd s => ?_
  obtain ⟨rfl, e⟩ := y
  obtain ⟨d, e2, hv⟩ := hd.get e
  exact ⟨D, d, e2, wd, .refl _, hv.mono s⟩
theorem yl_tup {K : PySem.W.Frag} {a : Addr} {xs : List V} (h : D0 a = some (.tup xs)) (hd : DvA cm D0 xs ds) : Yl cm (Itt K a) D0 ds := by
  have w := walk_tup (K := K) (a := a) (xs := xs)
  rw [show xs.length = ds.length from hd.length] at w
  refine w.mono (fun H ⟨A, S, D, F, wd, s⟩ => .of (wd.sub _ _ (s _ _ h))) fun i H x H' hi _ y A S D F wd s => ?_
  obtain ⟨rfl, e⟩ := y
  obtain ⟨d, e2, hv⟩ := hd.get e
  exact ⟨D, d, e2, wd, .refl _, hv.mono s⟩
theorem yl_range {lo : Int} {n : Nat} : Yl cm (Itr lo n) D0 (rangeL lo n) := by
  have w := walk_range (lo := lo) (n := n)
  unfold Yl
  rw [show (rangeL lo n).length = n by unfold rangeL; rw [List.length_map, List.length_range]]
  refine w.mono (fun H _ => trivial) fun i H x H' hi _ y A S D F wd s => ?_
  obtain ⟨rfl, rfl⟩ := y
  refine ⟨D, .int (lo + (i : Nat)), ?_, wd, .refl _, .int _⟩
  unfold rangeL
  rw [List.getElem?_map, List.getElem?_range hi]
  rfl
end
section
variable {X : Cx} {cm : CM} {W : WX} {tg e : Expr} {f : Ex} {fs : Exs} {p pos : Pos}
theorem gi_seq (h : GE X cm W e f) : GI X cm W tg e (iSq f) :=
  pi_imp (pi_seq h) fun σ H R ⟨p, ok, h⟩ => ⟨p, ok, (fin.bind h).imp (fun x S1 D1 H1 w s k v r1 => by
    unfold seqOf at k
    split at k
    · cases r1 with
      | @lst a xs _ h1 h2 => exact ⟨a, rfl, .inl ⟨⟨xs, .of (w.sub _ _ h1)⟩, k D1 H1 w (.refl _) _ (yl_list h1 h2)⟩⟩
    · cases r1 with
      | @tup a xs _ h1 h2 => exact ⟨a, rfl, .inr ⟨⟨xs, .of (w.sub _ _ h1)⟩, k D1 H1 w (.refl _) _ (yl_tup h1 h2)⟩⟩
    · exact absurd k id) fun _ _ _ _ _ _ z => z⟩
theorem vrs1 {A : List Addr} {D : Hp} {Ow : List (Addr × HO)} {x : Vl} {vs : List V} (h : VRs cm A D Ow [x] vs) : ∃ v, vs = [v] ∧ VR cm A D Ow x v := by
  cases h with
  | cons h1 h2 => cases h2; exact ⟨_, rfl, h1⟩
theorem vrs2 {A : List Addr} {D : Hp} {Ow : List (Addr × HO)} {x y : Vl} {vs : List V} (h : VRs cm A D Ow [x, y] vs) : ∃ v u, vs = [v, u] ∧ VR cm A D Ow x v ∧ VR cm A D Ow y u := by
  cases h with
  | cons h1 h2 =>
    obtain ⟨u, rfl, h3⟩ := vrs1 h2
    exact ⟨_, _, rfl, h1, h3⟩
theorem gi_range1 {a : Expr} (hm : X.mg "range" = none) (ha : GA X cm W [a] fs) (hg : Gl X "range" := by rfl) (hs : starEach [a] X.env = [(false, eval a X.env)] := by rfl) : GI X cm W tg (.Call (.Name "range" p) [a] [] pos) (iArgs rng1 fs) :=
  pi_imp (pi_range1 hg hm ha hs) fun σ H R ⟨p, ok, h⟩ => ⟨p, ok, (fin.bind h).imp (fun x S1 D1 H1 w s k vs r1 => by
    unfold rng1 at k
    split at k
    · rename_i j
      split at k
      · rename_i hj
        obtain ⟨v, rfl, r2⟩ := vrs1 r1
        cases r2
        exact ⟨j, rfl, by omega, by omega, k D1 H1 w (.refl _) _ yl_range⟩
      · exact absurd k id
    · exact absurd k id) fun _ _ _ _ _ _ z => z⟩
theorem gi_range2 {a b : Expr} (hm : X.mg "range" = none) (ha : GA X cm W [a, b] fs) (hg : Gl X "range" := by rfl) (hs : starEach [a, b] X.env = [(false, eval a X.env), (false, eval b X.env)] := by rfl) (hs2 : starEach [b] X.env = [(false, eval b X.env)] := by rfl) : GI X cm W tg (.Call (.Name "range" p) [a, b] [] pos) (iArgs rng2 fs) :=
  pi_imp (pi_range2 hg hm ha hs hs2) fun σ H R ⟨p, ok, h⟩ => ⟨p, ok, (fin.bind h).imp (fun x S1 D1 H1 w s k vs r1 => by
    unfold rng2 at k
    split at k
    · rename_i i j
      split at k
      · rename_i hj
        obtain ⟨v, u, rfl, r2, r3⟩ := vrs2 r1
        cases r2
        cases r3
        exact ⟨i, j, rfl, ⟨by omega, by omega, by omega, by omega⟩, k D1 H1 w (.refl _) _ yl_range⟩
      · exact absurd k id
    · exact absurd k id) fun _ _ _ _ _ _ z => z⟩
end

/-! ## for -/
def loopS (pt : Tg) (body : Sx) : List PyData → Sx
  | [] => fun ρ S => some (.nx, ρ, S)
  | d :: ds => fun ρ S => match asg pt d ρ with
    | none => none
    | some ρ1 => match body ρ1 S with
      | some (.nx, ρ2, S2) => loopS pt body ds ρ2 S2
      | some (.ct, ρ2, S2) => loopS pt body ds ρ2 S2
      | some (.bk, ρ2, S2) => some (.nx, ρ2, S2)
      | some r => some r
      | none => none
def sI (r : R (List PyData)) (ρ : Env) (k : List PyData → Sto → Option (Out × Env × Sto)) : Option (Out × Env × Sto) := match r with
  | .ok x S => k x S
  | .er e S => some (.er e, ρ, S)
  | .no => none
def sFor (pt : Tg) (fi : Ix) (body : Sx) : Sx := fun ρ S => sI (fi ρ S) ρ fun ds S1 => loopS pt body ds ρ S1
section
variable {cm : CM} {p q : Pk} {σ : L2.St} {H : Hp} {P : Out → Pk → L2.St → Hp → Prop} {r : Option (Out × Env × Sto)}
theorem finS.on (h : finS cm p r P) (hA : q.A = p.A) (hF : q.Fr = p.Fr) (s : Same p.D q.D) : finS cm q r P := by
  cases r with
  | none => exact h
  | some t =>
    intro D' Ow' σ' H' ok s'
    rw [hA, hF] at ok ⊢
    exact h D' Ow' σ' H' ok (s.trans s')
theorem finS.imp {P' : Out → Pk → L2.St → Hp → Prop} (h : finS cm p r P) (k : ∀ o q σ' H', q.Ok cm σ' H' → q.A = p.A → q.Fr = p.Fr → Same p.D q.D → P o q σ' H' → P' o q σ' H') : finS cm p r P' := by
  cases r with
  | none => exact h
  | some t => exact fun D' Ow' σ' H' ok s => k _ _ _ _ ok rfl rfl s (h D' Ow' σ' H' ok s)
end
section
variable {X : Cx} {cm : CM} {W : WX} {tg iter : Expr} {pt : Tg} {fi : Ix} {body : List Stmt} {fb : Sx} {pos : Pos}
theorem gs_for (hp : PassesOwn (model X.prog X.w) X.A X.env X.xe) (hc : X.calm = true) (hi : GI X cm W tg iter fi) (hg : GG X cm tg pt) (hb : GSs X cm W body fb) (hs : ∀ x, foldedSetIterable iter X.env x = pure x := by intro _; rfl) : GS X cm W (.For tg iter body [] pos) (sFor pt fi fb) :=
  ps_imp (ps_for hp hc hi hg hb hs) fun D σ H ⟨p, ok, h⟩ => by
    refine ⟨p, ok, ?_⟩
    unfold sFor at h
    cases e : fi p.ρ p.S with
    | no => rw [e] at h; exact absurd h id
    | er x S1 => rw [e] at h; exact fun D1 H1 w s => h D1 p.Ow σ H1 (ok.on w s) s
    | ok ds S1 =>
      rw [e] at h
      intro D1 H1 w1 s1 J yl
      have h' : finS cm p (loopS pt fb ds p.ρ S1) (fun o q σ' H' => outP cm W D o q σ' H') := h
      refine for_it yl (fun i σ H => ∃ q : Pk, q.Ok cm σ H ∧ q.A = p.A ∧ q.Fr = p.Fr ∧ Same D1 q.D ∧ finS cm q (loopS pt fb (ds.drop i) q.ρ q.S) (fun o q σ' H' => outP cm W D o q σ' H')) ⟨⟨p.A, S1, D1, p.Ow, p.Fr, p.ρ⟩, ok.on w1 s1, rfl, rfl, .refl _, h'.on rfl rfl s1⟩ (fun i σ H _ ⟨q, okq, _, _, sq, _⟩ => ⟨_, _, _, _, okq.wd, sq⟩) (fun i x σ H H' hi ⟨q, okq, hA, hF, sq, hq⟩ y => ?_) (fun σ H ⟨q, okq, hA, hF, sq, hq⟩ => ?_)
      · obtain ⟨D2, d, e2, w2, s2, hv⟩ := y _ _ _ _ okq.wd sq
        rw [List.drop_eq_getElem_cons hi, show ds[i] = d from (List.getElem_eq_iff hi).mpr e2] at hq
        unfold loopS at hq
        cases e3 : asg pt d q.ρ with
        | none => rw [e3] at hq; exact absurd hq id
        | some ρ1 =>
          rw [e3] at hq
          refine ⟨⟨q.A, q.S, D2, q.Ow, q.Fr, q.ρ⟩, d, ρ1, okq.on w2 s2, hv, e3, fun σ1 er1 _ => ⟨⟨q.A, q.S, D2, q.Ow, q.Fr, ρ1⟩, ⟨w2, er1⟩, ?_⟩⟩
          dsimp only at hq ⊢
          cases e4 : fb ρ1 q.S with
          | none => rw [e4] at hq; exact hq
          | some t =>
            obtain ⟨o, ρ2, S2⟩ := t
            rw [e4] at hq
            intro D3 Ow3 σ3 H3 ok3 s3
            cases o with
            | nx => exact ⟨_, ok3, hA, hF, sq.trans (s2.trans s3), finS.on hq rfl rfl (s2.trans s3)⟩
            | ct => exact ⟨_, ok3, hA, hF, sq.trans (s2.trans s3), finS.on hq rfl rfl (s2.trans s3)⟩
            | bk => exact hq D3 Ow3 σ3 H3 ok3 (s2.trans s3)
            | rt x => exact hq D3 Ow3 σ3 H3 ok3 (s2.trans s3)
            | er x => exact hq D3 Ow3 σ3 H3 ok3 (s2.trans s3)
      · rw [List.drop_length] at hq
        exact hq q.D q.Ow σ H okq (.refl _)
end

/-! ## while: so many turns at most -/
def whileS (c : Env → M Bool) (body : Sx) : Nat → Sx
  | 0 => fun _ _ => none
  | n + 1 => fun ρ S => match c ρ S with
    | .ok true S1 => match body ρ S1 with
      | some (.nx, ρ2, S2) => whileS c body n ρ2 S2
      | some (.ct, ρ2, S2) => whileS c body n ρ2 S2
      | some (.bk, ρ2, S2) => some (.nx, ρ2, S2)
      | some r => some r
      | none => none
    | .ok false S1 => some (.nx, ρ, S1)
    | .er e S1 => some (.er e, ρ, S1)
    | .no => none
section
variable {X : Cx} {cm : CM} {W : WX} {c : Expr} {fc : Env → M Bool} {body : List Stmt} {fb : Sx} {pos : Pos} {n : Nat}
theorem gs_while (hp : PassesOwn (model X.prog X.w) X.A X.env X.xe) (hc : GT X cm W c fc) (hb : GSs X cm W body fb) : GS X cm W (.While c body [] pos) (whileS fc fb n) :=
  ps_imp (ps_while hp hc hb) fun D σ H ⟨p, ok, h⟩ => by
    refine ⟨fun m σ H => ∃ q : Pk, q.Ok cm σ H ∧ finS cm q (whileS fc fb m q.ρ q.S) (fun o q σ' H' => outP cm W D o q σ' H'), ⟨n, p, ok, h⟩, ?_⟩
    rintro m σ H ⟨q, okq, hq⟩
    cases m with
    | zero => exact absurd hq id
    | succ m =>
      unfold whileS at hq
      refine ⟨q, okq, ?_⟩
      cases e : fc q.ρ q.S with
      | no => rw [e] at hq; exact hq
      | er x S1 => rw [e] at hq; exact fun D1 H1 w s => hq D1 q.Ow σ H1 (okq.on w s) s
      | ok t S1 =>
        rw [e] at hq
        intro D1 H1 w1 s1
        cases t with
        | false => exact hq D1 q.Ow σ H1 (okq.on w1 s1) s1
        | true =>
          refine ⟨fun σ' H' => ∃ q : Pk, q.Ok cm σ' H' ∧ finS cm q (whileS fc fb m q.ρ q.S) (fun o q σ' H' => outP cm W D o q σ' H'), fun σ' H' z => ⟨m, Nat.lt_succ_self _, z⟩, ⟨⟨q.A, S1, D1, q.Ow, q.Fr, q.ρ⟩, okq.on w1 s1, ?_⟩⟩
          dsimp only at hq ⊢
          cases e4 : fb q.ρ S1 with
          | none => rw [e4] at hq; exact hq
          | some t =>
            obtain ⟨o, ρ2, S2⟩ := t
            rw [e4] at hq
            intro D3 Ow3 σ3 H3 ok3 s3
            cases o with
            | nx => exact ⟨_, ok3, finS.on hq rfl rfl (s1.trans s3)⟩
            | ct => exact ⟨_, ok3, finS.on hq rfl rfl (s1.trans s3)⟩
            | bk => exact hq D3 Ow3 σ3 H3 ok3 (s1.trans s3)
            | rt x => exact hq D3 Ow3 σ3 H3 ok3 (s1.trans s3)
            | er x => exact hq D3 Ow3 σ3 H3 ok3 (s1.trans s3)
end
end Sm

set_option maxHeartbeats 4000000
namespace Sm
open PySem PySem.Spec PyProof.Rows L2 Lf

/-! ## objects that stay away -/
section
variable {cm : CM} {A : List Addr} {S : Sto} {D : Hp} {F F' Ow Fr : List (Addr × HO)} {H : Hp} {a : Addr} {o o' : HO}
theorem Wd.perm (w : Wd cm A S D F H) (h : F.Perm F') : Wd cm A S D F' H :=
  ⟨w.sub, fun q hq => w.frs q (h.mem_iff.mpr hq), (h.map Prod.fst).nodup_iff.mp w.ndF, w.cel, w.out, w.ndA, w.len⟩
theorem Wd.newM (w : Wd cm A S D (Ow ++ Fr) H) (np : H a = none) (o : HO) : Wd cm A S D (Ow ++ (a, o) :: Fr) (upd H a o) := (w.newF np o).perm List.perm_middle.symm
theorem Wd.at_ (w : Wd cm A S D (Ow ++ (a, o) :: Fr) H) : H a = some o ∧ D a = none ∧ a ∉ A := w.frs (a, o) (List.mem_append_right _ List.mem_cons_self)
theorem Wd.off (w : Wd cm A S D (Ow ++ (a, o) :: Fr) H) {q : Addr × HO} (hq : q ∈ Ow ++ Fr) : q.1 ≠ a := fun z => by
  have nd := (w.perm List.perm_middle).ndF
  rw [List.map_cons, List.nodup_cons] at nd
  exact nd.1 (List.mem_map.mpr ⟨q, hq, z⟩)
theorem Wd.cell_ne (w : Wd cm A S D F H) (hA : a ∉ A) {n : Nat} {b : Addr} (e : A[n]? = some b) : b ≠ a := fun z => hA (z ▸ List.mem_of_getElem? e)
/-- the object is written -/
theorem Wd.up (w : Wd cm A S D (Ow ++ (a, o) :: Fr) H) (o' : HO) : Wd cm A S D (Ow ++ (a, o') :: Fr) (upd H a o') := by
  obtain ⟨h1, h2, h3⟩ := w.at_
  refine Wd.perm ?_ List.perm_middle.symm
  have nd := (w.perm List.perm_middle).ndF
  refine ⟨fun b u e => ?_, fun q hq => ?_, nd, fun n ds e => ?_, w.out, w.ndA, w.len⟩
  · rw [upd_ne (fun z => by rw [z, h2] at e; cases e)]
    exact w.sub _ _ e
  · rcases List.mem_cons.mp hq with rfl | hq
    · exact ⟨upd_same, h2, h3⟩
    · have hq' : q ∈ Ow ++ (a, o) :: Fr := by
        rcases List.mem_append.mp hq with z | z
        · exact List.mem_append_left _ z
        · exact List.mem_append_right _ (List.mem_cons_of_mem _ z)
      obtain ⟨k1, k2, k3⟩ := w.frs q hq'
      exact ⟨by rw [upd_ne (w.off hq)]; exact k1, k2, k3⟩
  · obtain ⟨b, xs, k1, k2, k3⟩ := w.cel n ds e
    exact ⟨b, xs, k1, by rw [upd_ne (w.cell_ne h3 k1)]; exact k2, k3⟩
/-- the object becomes data -/
theorem Wd.toD (w : Wd cm A S D (Ow ++ (a, o) :: Fr) H) : Wd cm A S (upd D a o) (Ow ++ Fr) H ∧ Same D (upd D a o) := by
  obtain ⟨h1, h2, h3⟩ := w.at_
  have sD : Same D (upd D a o) := same_new h2 o
  have w' := w.perm List.perm_middle
  have nd := w'.ndF
  rw [List.map_cons, List.nodup_cons] at nd
  refine ⟨⟨fun b u e => ?_, fun q hq => ?_, nd.2, fun n ds e => ?_, fun b hb => ?_, w.ndA, w.len⟩, sD⟩
  · by_cases hb : b = a
    · subst hb
      rw [upd_same] at e
      rw [h1]
      exact e
    · rw [upd_ne hb] at e
      exact w.sub _ _ e
  · obtain ⟨k1, k2, k3⟩ := w'.frs q (List.mem_cons_of_mem _ hq)
    exact ⟨k1, by rw [upd_ne (w.off hq)]; exact k2, k3⟩
  · obtain ⟨b, xs, k1, k2, k3⟩ := w.cel n ds e
    exact ⟨b, xs, k1, k2, k3.mono sD⟩
  · rw [upd_ne (fun z : b = a => h3 (z ▸ hb))]
    exact w.out b hb
/-- the object is forgotten -/
theorem Wd.drop (w : Wd cm A S D (Ow ++ (a, o) :: Fr) H) : Wd cm A S D (Ow ++ Fr) H := by
  have w' := w.perm List.perm_middle
  have nd := w'.ndF
  rw [List.map_cons, List.nodup_cons] at nd
  exact ⟨w.sub, fun q hq => w'.frs q (List.mem_cons_of_mem _ hq), nd.2, w.cel, w.out, w.ndA, w.len⟩
theorem Wd.dropL (w : Wd cm A S D (Ow ++ Fr) H) : Wd cm A S D Fr H := by
  have nd := w.ndF
  rw [List.map_append] at nd
  exact ⟨w.sub, fun q hq => w.frs q (List.mem_append_right _ hq), (List.nodup_append.mp nd).2.1, w.cel, w.out, w.ndA, w.len⟩
end

/-! ## names that are wiped -/
def wipeE (ρ : Env) : List Nat → Env
  | [] => ρ
  | v :: vs => (wipeE ρ vs).set v none
theorem Er.wipe {cm : CM} {A : List Addr} {D : Hp} {Ow : List (Addr × HO)} {ρ : Env} {σ : L2.St} (h : Er cm A D Ow ρ σ) : ∀ vs : List Nat, Er cm A D Ow (wipeE ρ vs) (wipe σ vs)
  | [] => h
  | v :: vs => (h.wipe vs).unset
theorem But.wipe {is vs : List Nat} {σ σ' : L2.St} (b : But is (L2.wipe σ vs) σ') (h : ∀ i ∈ is, i ∈ vs) : L2.wipe σ' vs = L2.wipe σ vs := by
  have key : ∀ i ∈ vs, ∀ τ : L2.St, i < τ.length → (L2.wipe τ vs)[i]? = some none := by
    clear h b
    induction vs with
    | nil => intro i hi; cases hi
    | cons v vs ih =>
      intro i hi τ hl
      unfold L2.wipe
      rw [List.getElem?_set]
      by_cases hv : v = i
      · rw [if_pos hv, if_pos (by rw [wipe_length]; omega)]
      · rw [if_neg hv]
        exact ih i ((List.mem_cons.mp hi).resolve_left fun z => hv z.symm) τ hl
  have hl : σ'.length = σ.length := by rw [b.len, wipe_length]
  refine List.ext_getElem? fun i => ?_
  by_cases hi : i ∈ vs
  · by_cases hlt : i < σ.length
    · rw [key i hi σ' (by omega), key i hi σ hlt]
    · rw [List.getElem?_eq_none (by rw [wipe_length]; omega), List.getElem?_eq_none (by rw [wipe_length]; omega)]
  · rw [wipe_out hi, b.at' i fun z => hi (h i z)]
theorem But.wipe2 {is vs vs1 : List Nat} {σ σ' : L2.St} (b : But is (L2.wipe σ vs1) σ') (h : ∀ i ∈ is, i ∈ vs1) : L2.wipe σ' vs1 = L2.wipe σ vs1 := b.wipe h

/-! ## comprehensions -/
def R.quiet {α : Type} : R α → R α
  | .er _ _ => .no
  | r => r
def yesT : Env → M Bool := fun _ S => .ok true S
def consD (r : R (List PyData)) (y : PyData) : R (List PyData) := match r with
  | .ok ys S => .ok (y :: ys) S
  | .er e S => .er e S
  | .no => .no
def appD (r : R (List PyData)) (zs : List PyData) : R (List PyData) := match r with
  | .ok ys S => .ok (zs ++ ys) S
  | .er e S => .er e S
  | .no => .no
def cL (pt : Tg) (tt : Env → M Bool) (elt : Ex) (vs : List Nat) (ρ : Env) : List PyData → M (List PyData)
  | [] => fun S => .ok [] S
  | d :: ds => fun S => match asg pt d (wipeE ρ vs) with
    | none => .no
    | some ρ1 => match tt ρ1 S with
      | .ok true S1 => match elt ρ1 S1 with
        | .ok (.d y) S2 => consD (cL pt tt elt vs ρ ds S2) y
        | _ => .no
      | .ok false S1 => cL pt tt elt vs ρ ds S1
      | _ => .no
def cL2 (pt : Tg) (tt : Env → M Bool) (fi1 : Ix) (pt1 : Tg) (tt1 : Env → M Bool) (elt : Ex) (vs vs1 : List Nat) (ρ : Env) : List PyData → M (List PyData)
  | [] => fun S => .ok [] S
  | d :: ds => fun S => match asg pt d (wipeE ρ vs) with
    | none => .no
    | some ρ1 => match tt ρ1 S with
      | .ok true S1 => match fi1 ρ1 S1 with
        | .ok ds1 S2 => match cL pt1 tt1 elt vs1 ρ1 ds1 S2 with
          | .ok ys S3 => appD (cL2 pt tt fi1 pt1 tt1 elt vs vs1 ρ ds S3) ys
          | _ => .no
        | _ => .no
      | .ok false S1 => cL2 pt tt fi1 pt1 tt1 elt vs vs1 ρ ds S1
      | _ => .no
def lim (r : R (List PyData)) : R Vl := match r with
  | .ok ys S => if ys.length ≤ big then .ok (.d (.list ys)) S else .no
  | _ => .no
def eComp (pt : Tg) (fi : Ix) (tt : Env → M Bool) (elt : Ex) (vs : List Nat) : Ex := fun ρ S => (fi ρ S).bind fun ds S1 => lim (cL pt tt elt vs ρ ds S1)
def eComp2 (pt : Tg) (fi : Ix) (tt : Env → M Bool) (fi1 : Ix) (pt1 : Tg) (tt1 : Env → M Bool) (elt : Ex) (vs vs1 : List Nat) : Ex := fun ρ S => (fi ρ S).bind fun ds S1 => lim (cL2 pt tt fi1 pt1 tt1 elt vs vs1 ρ ds S1)
abbrev W0 : WX := fun _ _ _ _ => False
abbrev GTs (X : Cx) (cm : CM) (W : WX) (es : List Expr) (f : Env → M Bool) : Prop := PTs X es (tT cm W f)
theorem pts_imp {X : Cx} {es : List Expr} {t t' : TT} (h : PTs X es t) (k : ∀ σ H Q, t' σ H Q → t σ H Q) : PTs X es t' := ⟨fun pins s σ H Q I q => h.run pins s σ H Q I (k _ _ _ q)⟩
theorem gts_nil {X : Cx} {cm : CM} {W : WX} : GTs X cm W [] yesT := pts_imp pts_nil fun σ H Q ⟨p, ok, h⟩ => h p.D H ok.wd (.refl _)
theorem gts_one {X : Cx} {cm : CM} {W : WX} {c : Expr} {f : Env → M Bool} (h : GT X cm W c f) : GTs X cm W [c] f := pts_one h
theorem lim_inv {cm : CM} {A : List Addr} {D : Hp} {F : List (Addr × HO)} {r : R (List PyData)} {okP : Vl → Sto → Hp → Hp → Prop} {erP : Exn → Sto → Hp → Hp → Prop} (h : fin cm A F D (lim r) okP erP) : ∃ ys S', r = .ok ys S' ∧ ys.length ≤ big ∧ ∀ D' H', Wd cm A S' D' F H' → Same D D' → okP (.d (.list ys)) S' D' H' := by
  unfold lim at h
  split at h
  · split at h
    · exact ⟨_, _, rfl, ‹_›, h⟩
    · exact absurd h id
  · exact absurd h id
theorem consD_ok {r : R (List PyData)} {y : PyData} {zs : List PyData} {S' : Sto} (h : consD r y = .ok zs S') : ∃ ys, r = .ok ys S' ∧ zs = y :: ys := by
  unfold consD at h
  split at h
  · cases h
    exact ⟨_, rfl, rfl⟩
  · cases h
  · cases h
theorem appD_ok {r : R (List PyData)} {ys : List PyData} {zs : List PyData} {S' : Sto} (h : appD r ys = .ok zs S') : ∃ us, r = .ok us S' ∧ zs = ys ++ us := by
  unfold appD at h
  split at h
  · cases h
    exact ⟨_, rfl, rfl⟩
  · cases h
  · cases h
section
variable {cm : CM} {pt : Tg} {tt : Env → M Bool} {elt : Ex} {vs : List Nat} {ρ : Env} {A : List Addr} {Ow Fr : List (Addr × HO)} {σ : L2.St} {L : Addr}
/-- the turn of a clause: what is left to come is ysR, the list in the making holds acc; behind it nxt -/
theorem comp_turn {d : PyData} {ds : List PyData} {S S' : Sto} {D D0 : Hp} {acc : List V} {dacc ysR : List PyData} {H H' : Hp} {v : V} {ext : Nat} (er : Er cm A D0 Ow ρ σ) (s0 : Same D0 D) (w : Wd cm A S D (Ow ++ (L, .lst acc) :: Fr) H') (hv : Dv cm D v d) (ha : DvA cm D acc dacc)
    (hc : cL pt tt elt vs ρ (d :: ds) S = .ok ysR S') (hb : dacc.length + ysR.length ≤ big) (hsl : ∀ i ∈ pt.slots, i ∈ vs) (nxt : Hp → Prop)
    (hn : ∀ S1 D1 H1 acc1 dacc1 ysR1, Wd cm A S1 D1 (Ow ++ (L, .lst acc1) :: Fr) H1 → Same D D1 → DvA cm D1 acc1 dacc1 → cL pt tt elt vs ρ ds S1 = .ok ysR1 S' → dacc1 ++ ysR1 = dacc ++ ysR → nxt H1) :
    tG cm pt v (wipe σ vs) H' fun σ2 H2 => wipe σ2 vs = wipe σ vs ∧ tT cm W0 tt σ2 H2 fun b H3 => if b = true then tE cm W0 elt σ2 H3 fun y H4 => ∃ acc, H4 L = some (.lst acc) ∧ acc.length < sizeLine ∧ nxt (upd H4 L (.lst (acc ++ [y]))) else nxt H3 := by
  unfold cL at hc
  cases e1 : asg pt d (wipeE ρ vs) with
  | none => rw [e1] at hc; cases hc
  | some ρ1 =>
    rw [e1] at hc
    refine ⟨⟨A, S, D, Ow, (L, .lst acc) :: Fr, wipeE ρ vs⟩, d, ρ1, ⟨w, (er.mono s0).wipe vs⟩, hv, e1, fun σ2 er2 b2 => ⟨b2.wipe hsl, ⟨A, S, D, Ow, (L, .lst acc) :: Fr, ρ1⟩, ⟨w, er2⟩, ?_⟩⟩
    dsimp only at hc ⊢
    cases e2 : tt ρ1 S with
    | no => rw [e2] at hc; cases hc
    | er e S1 => rw [e2] at hc; cases hc
    | ok b S1 =>
      rw [e2] at hc
      intro D1 H1 w1 s1
      cases b with
      | false =>
        rw [if_neg Bool.false_ne_true]
        exact hn S1 D1 H1 acc dacc ysR w1 s1 (ha.mono s1) hc rfl
      | true =>
        rw [if_pos rfl]
        refine ⟨⟨A, S1, D1, Ow, (L, .lst acc) :: Fr, ρ1⟩, ⟨w1, er2.mono s1⟩, ?_⟩
        dsimp only at hc ⊢
        cases e3 : elt ρ1 S1 with
        | no => rw [e3] at hc; cases hc
        | er e S2 => rw [e3] at hc; cases hc
        | ok x S2 =>
          rw [e3] at hc
          cases x with
          | c n => cases hc
          | o zs => cases hc
          | d y =>
            obtain ⟨us, e4, rfl⟩ := consD_ok hc
            intro D2 H2 w2 s2 yv hy
            have hl : acc.length = dacc.length := ha.length
            refine ⟨acc, w2.at_.1, by rw [hl]; exact big_le (by rw [List.length_cons] at hb; omega), hn S2 D2 _ (acc ++ [yv]) (dacc ++ [y]) us (w2.up _) (s1.trans s2) ((ha.mono (s1.trans s2)).append (.cons hy .nil)) e4 (by simp)⟩
end
/-- a clause within a clause -/
theorem lc_it0 {J : It} {n : Nat} {G : Hp → Prop} {Y : Nat → Hp → V → Hp → Prop} (w : Walk J n G Y) {g : TG} {tt : TT} {te : TE} {vs : List Nat} {σ : L2.St} {H0 : Hp} {D : Addr} {Nx : Hp → Prop} (Pv : Nat → Hp → Prop) (h0 : Pv 0 H0) (hG : ∀ i H, i ≤ n → Pv i H → G H)
    (hs : ∀ i x H H', i < n → Pv i H → Y i H x H' → g x (wipe σ vs) H' fun σ2 H2 => wipe σ2 vs = wipe σ vs ∧ tt σ2 H2 fun b H3 =>
      if b = true then te σ2 H3 fun y H4 => ∃ acc, H4 D = some (.lst acc) ∧ acc.length < sizeLine ∧ Pv (i + 1) (upd H4 D (.lst (acc ++ [y]))) else Pv (i + 1) H3) (hd : ∀ H, Pv n H → Nx H) :
    ∃ W1 : Nat → Nat → Hp → Prop, (∃ m, W1 0 m H0) ∧ ∀ j k H, W1 j k H →
      (J.stop j H ∧ Nx H) ∨ (J.go j H ∧ ∃ Nx1 : Hp → Prop, (∀ H', Nx1 H' → ∃ k', k' < k ∧ W1 (j + 1) k' H') ∧ ∀ x H', J.yld j H x H' → g x (wipe σ vs) H' fun σ3 H5 => wipe σ3 vs = wipe σ vs ∧ tt σ3 H5 fun b H6 =>
        if b = true then te σ3 H6 fun y H7 => ∃ acc, H7 D = some (.lst acc) ∧ acc.length < sizeLine ∧ Nx1 (upd H7 D (.lst (acc ++ [y]))) else Nx1 H6) := by
  refine ⟨fun i m H => m = n - i ∧ i ≤ n ∧ Pv i H, ⟨n, by simp, Nat.zero_le _, h0⟩, ?_⟩
  rintro i m H ⟨rfl, hi, p⟩
  have q := hG i H hi p
  by_cases hlt : i < n
  · refine .inr ⟨w.goes i H hlt q, Pv (i + 1), fun H' p' => ⟨n - (i + 1), by omega, rfl, hlt, p'⟩, fun x H' y => hs i x H H' hlt p (w.yields i H x H' hlt q y)⟩
  · have e : i = n := by omega
    subst e
    exact .inl ⟨w.stops H q, hd H p⟩
section
variable {X : Cx} {cm : CM} {W : WX} {elt tg iter tg1 iter1 : Expr} {ifs ifs1 : List Expr} {scope : Scope} {own : List (Str × Nat)} {vs1 : List Nat} {pos : Pos} {pt pt1 : Tg} {fi fi1 : Ix} {tt tt1 : Env → M Bool} {fe : Ex}
theorem comp_red {vs : List Nat} {σ : L2.St} {H : Hp} {Q : VK} (hsl : ∀ i ∈ pt.slots, i ∈ vs) (h : tE cm W (eComp pt fi tt fe vs) σ H Q) : tLc (tI cm W fi) (tG cm pt) (tT cm W0 tt) (tE cm W0 fe) vs σ H Q := by
  obtain ⟨p, ok, h⟩ := h
  exact ⟨p, ok, (fin.bind h).imp (fun ds S1 D1 H1 w1 s1 k J yl L nL => by
    obtain ⟨ys, S', e, hl, k2⟩ := lim_inv k
    refine lc_it yl (fun i H => ∃ S D acc dacc ysR, Wd cm p.A S D (p.Ow ++ (L, .lst acc) :: p.Fr) H ∧ Same D1 D ∧ DvA cm D acc dacc ∧ cL pt tt fe (vs) p.ρ (ds.drop i) S = .ok ysR S' ∧ dacc ++ ysR = ys) ⟨S1, D1, [], [], ys, w1.newM nL _, .refl _, .nil, e, rfl⟩
      (fun i H _ ⟨S, D, acc, dacc, ysR, w, s, _⟩ => ⟨_, _, _, _, w, s⟩) (fun i x H H' hi ⟨S, D, acc, dacc, ysR, w, s, ha, hc, hz⟩ y => ?_) (fun H ⟨S, D, acc, dacc, ysR, w, s, ha, hc, hz⟩ => ?_)
    · obtain ⟨D2, d, e2, w2, s2, hv⟩ := y _ _ _ _ w s
      rw [List.drop_eq_getElem_cons hi, show ds[i] = d from (List.getElem_eq_iff hi).mpr e2] at hc
      refine comp_turn (ext := 0) (H := H) (ok.er.mono s1) (s.trans s2) w2 hv (ha.mono s2) hc (by rw [← List.length_append, hz]; exact hl) hsl _ (fun S3 D3 H3 acc3 dacc3 ysR3 w3 s3 ha3 hc3 hz3 => ⟨S3, D3, acc3, dacc3, ysR3, w3, s.trans (s2.trans s3), ha3, hc3, hz3.trans hz⟩)
    · rw [List.drop_length] at hc
      unfold cL at hc
      cases hc
      rw [List.append_nil] at hz
      subst hz
      obtain ⟨w', s'⟩ := w.toD
      exact k2 _ _ w' (s.trans s') _ (.lst upd_same (ha.mono s'))) fun _ _ _ _ _ _ z => z⟩
theorem comp2_red {vs : List Nat} {σ : L2.St} {H : Hp} {Q : VK} (hsl : ∀ i ∈ pt.slots, i ∈ vs) (hsl1 : ∀ i ∈ pt1.slots, i ∈ vs1) (h : tE cm W (eComp2 pt fi tt fi1 pt1 tt1 fe vs vs1) σ H Q) : tLc2 (tI cm W fi) (tG cm pt) (tT cm W0 tt) (tI cm W0 fi1) (tG cm pt1) (tT cm W0 tt1) (tE cm W0 fe) vs vs1 σ H Q := by
  obtain ⟨p, ok, h⟩ := h
  exact ⟨p, ok, (fin.bind h).imp (fun ds S1 D1 H1 w1 s1 k J yl L nL => by
    obtain ⟨ys, S', e, hl, k2⟩ := lim_inv k
    refine ⟨fun i m H => m = ds.length - i ∧ i ≤ ds.length ∧ ∃ S D acc dacc ysR, Wd cm p.A S D (p.Ow ++ (L, .lst acc) :: p.Fr) H ∧ Same D1 D ∧ DvA cm D acc dacc ∧ cL2 pt tt fi1 pt1 tt1 fe (vs) vs1 p.ρ (ds.drop i) S = .ok ysR S' ∧ dacc ++ ysR = ys, ⟨ds.length, by simp, Nat.zero_le _, S1, D1, [], [], ys, w1.newM nL _, .refl _, .nil, e, rfl⟩, ?_⟩
    rintro i m H ⟨rfl, hi, S, D, acc, dacc, ysR, w, s, ha, hc, hz⟩
    by_cases hlt : i < ds.length
    · refine .inr ⟨yl.goes i H hlt ⟨_, _, _, _, w, s⟩, fun H => i + 1 ≤ ds.length ∧ ∃ S D acc dacc ysR, Wd cm p.A S D (p.Ow ++ (L, .lst acc) :: p.Fr) H ∧ Same D1 D ∧ DvA cm D acc dacc ∧ cL2 pt tt fi1 pt1 tt1 fe (vs) vs1 p.ρ (ds.drop (i + 1)) S = .ok ysR S' ∧ dacc ++ ysR = ys, fun H' z => ⟨ds.length - (i + 1), by omega, rfl, z.1, z.2⟩, fun x H' y => ?_⟩
      obtain ⟨D2, d, e2, w2, s2, hv2⟩ := yl.yields i H x H' hlt ⟨_, _, _, _, w, s⟩ y _ _ _ _ w s
      rw [List.drop_eq_getElem_cons hlt, show ds[i] = d from (List.getElem_eq_iff hlt).mpr e2] at hc
      unfold cL2 at hc
      cases e1 : asg pt d (wipeE p.ρ (vs)) with
      | none => rw [e1] at hc; cases hc
      | some ρ1 =>
        rw [e1] at hc
        refine ⟨⟨p.A, S, D2, p.Ow, (L, .lst acc) :: p.Fr, wipeE p.ρ (vs)⟩, d, ρ1, ⟨w2, ((ok.er.mono s1).mono (s.trans s2)).wipe _⟩, hv2, e1, fun σ2 er2 b2 => ⟨b2.wipe hsl, ⟨p.A, S, D2, p.Ow, (L, .lst acc) :: p.Fr, ρ1⟩, ⟨w2, er2⟩, ?_⟩⟩
        dsimp only at hc ⊢
        cases e3 : tt ρ1 S with
        | no => rw [e3] at hc; cases hc
        | er e S1 => rw [e3] at hc; cases hc
        | ok b S3 =>
          rw [e3] at hc
          intro D3 H3 w3 s3
          cases b with
          | false =>
            rw [if_neg Bool.false_ne_true]
            exact ⟨hlt, S3, D3, acc, dacc, ysR, w3, s.trans (s2.trans s3), ha.mono (s2.trans s3), hc, hz⟩
          | true =>
            rw [if_pos rfl]
            refine ⟨⟨p.A, S3, D3, p.Ow, (L, .lst acc) :: p.Fr, ρ1⟩, ⟨w3, er2.mono s3⟩, ?_⟩
            dsimp only at hc ⊢
            cases e4 : fi1 ρ1 S3 with
            | no => rw [e4] at hc; cases hc
            | er e S1 => rw [e4] at hc; cases hc
            | ok ds1 S4 =>
              rw [e4] at hc
              dsimp only at hc
              cases e5 : cL pt1 tt1 fe vs1 ρ1 ds1 S4 with
              | no => rw [e5] at hc; cases hc
              | er e S1 => rw [e5] at hc; cases hc
              | ok zs S5 =>
                rw [e5] at hc
                obtain ⟨us, e6, rfl⟩ := appD_ok hc
                intro D4 H4 w4 s4 J1 yl1
                have hzl : dacc.length + zs.length ≤ big := by
                  have := congrArg List.length hz
                  rw [List.length_append, List.length_append] at this
                  omega
                refine lc_it0 yl1 (fun j H => ∃ S D acc5 dacc5 zsR, Wd cm p.A S D (p.Ow ++ (L, .lst acc5) :: p.Fr) H ∧ Same D4 D ∧ DvA cm D acc5 dacc5 ∧ cL pt1 tt1 fe vs1 ρ1 (ds1.drop j) S = .ok zsR S5 ∧ dacc5 ++ zsR = dacc ++ zs) ⟨S4, D4, acc, dacc, zs, w4, .refl _, (ha.mono (s2.trans (s3.trans s4))), e5, rfl⟩
                  (fun j H _ ⟨S, D, acc, dacc, ysR, w, s, _⟩ => ⟨_, _, _, _, w, s⟩) (fun j x H H' hj ⟨S6, D6, acc6, dacc6, zsR, w6, s6, ha6, hc6, hz6⟩ y => ?_) (fun H ⟨S6, D6, acc6, dacc6, zsR, w6, s6, ha6, hc6, hz6⟩ => ?_)
                · obtain ⟨D7, d7, e7, w7, s7, hv7⟩ := y _ _ _ _ w6 s6
                  rw [List.drop_eq_getElem_cons hj, show ds1[j] = d7 from (List.getElem_eq_iff hj).mpr e7] at hc6
                  refine comp_turn (ext := 0) (H := H) (er2.mono (s3.trans s4)) (s6.trans s7) w7 hv7 (ha6.mono s7) hc6 (by rw [← List.length_append, hz6, List.length_append]; exact hzl) hsl1 _ (fun S8 D8 H8 acc8 dacc8 ysR8 w8 s8 ha8 hc8 hz8 => ⟨S8, D8, acc8, dacc8, ysR8, w8, s6.trans (s7.trans s8), ha8, hc8, hz8.trans hz6⟩)
                · rw [List.drop_length] at hc6
                  unfold cL at hc6
                  cases hc6
                  rw [List.append_nil] at hz6
                  subst hz6
                  exact ⟨hlt, _, D6, acc6, _, us, w6, s.trans (s2.trans (s3.trans (s4.trans s6))), ha6, e6, by rw [List.append_assoc]; exact hz⟩
    · have e0 : i = ds.length := by omega
      subst e0
      refine .inl ⟨yl.stops H ⟨_, _, _, _, w, s⟩, ?_⟩
      rw [List.drop_length] at hc
      unfold cL2 at hc
      cases hc
      rw [List.append_nil] at hz
      subst hz
      obtain ⟨w', s'⟩ := w.toD
      exact k2 _ _ w' (s.trans s') _ (.lst upd_same (ha.mono s'))) fun _ _ _ _ _ _ z => z⟩
theorem g_comp (hc : X.calm = true) (hN : X.N.Nodup) (hi : GI X cm W tg iter fi) (ok : BlkOk X.N X.env.scope scope own)
    (hg : ∀ (s : Shared) (H : Hp) (C : Addr) (cl : List (Str × Addr)) (fp : List Addr), GG (X.blk s H scope (compEnvC scope cl C X.env) fp) cm tg pt) (ht : ∀ (s : Shared) (H : Hp) (C : Addr) (cl : List (Str × Addr)) (fp : List Addr), GTs (X.blk s H scope (compEnvC scope cl C X.env) fp) cm W0 ifs tt)
    (he : ∀ (s : Shared) (H : Hp) (C : Addr) (cl : List (Str × Addr)) (fp : List Addr), GE (X.blk s H scope (compEnvC scope cl C X.env) fp) cm W0 elt fe) (hsl : ∀ i ∈ pt.slots, i ∈ own.map (·.2) := by decide) (hs : ∀ x, foldedSetIterable iter X.env x = pure x := by intro _; rfl) :
    GE X cm W (.ListComp elt [⟨tg, iter, ifs, 0⟩] scope pos) (eComp pt fi tt fe (own.map (·.2))) :=
  pe_imp (pe_lc hc hN hi ok hg ht he hs) fun σ H Q h => comp_red hsl h
theorem g_comp2 (hc : X.calm = true) (hN : X.N.Nodup) (hi : GI X cm W tg iter fi) (ok : BlkOk X.N X.env.scope scope own) (hv : ∀ i ∈ vs1, i ∈ own.map (·.2))
    (hg : ∀ (s : Shared) (H : Hp) (C : Addr) (cl : List (Str × Addr)) (fp : List Addr), GG (X.blk s H scope (compEnvC scope cl C X.env) fp) cm tg pt) (ht : ∀ (s : Shared) (H : Hp) (C : Addr) (cl : List (Str × Addr)) (fp : List Addr), GTs (X.blk s H scope (compEnvC scope cl C X.env) fp) cm W0 ifs tt)
    (hi1 : ∀ (s : Shared) (H : Hp) (C : Addr) (cl : List (Str × Addr)) (fp : List Addr), GI (X.blk s H scope (compEnvC scope cl C X.env) fp) cm W0 tg1 iter1 fi1)
    (hg1 : ∀ (s : Shared) (H : Hp) (C : Addr) (cl : List (Str × Addr)) (fp : List Addr), GG (X.blk s H scope (compEnvC scope cl C X.env) fp) cm tg1 pt1) (ht1 : ∀ (s : Shared) (H : Hp) (C : Addr) (cl : List (Str × Addr)) (fp : List Addr), GTs (X.blk s H scope (compEnvC scope cl C X.env) fp) cm W0 ifs1 tt1)
    (he : ∀ (s : Shared) (H : Hp) (C : Addr) (cl : List (Str × Addr)) (fp : List Addr), GE (X.blk s H scope (compEnvC scope cl C X.env) fp) cm W0 elt fe) (hsl : ∀ i ∈ pt.slots, i ∈ own.map (·.2) := by decide) (hsl1 : ∀ i ∈ pt1.slots, i ∈ vs1 := by decide) (hs : ∀ x, foldedSetIterable iter X.env x = pure x := by intro _; rfl) (hs1 : ∀ env x, foldedSetIterable iter1 env x = pure x := by intro _ _; rfl) :
    GE X cm W (.ListComp elt [⟨tg, iter, ifs, 0⟩, ⟨tg1, iter1, ifs1, 0⟩] scope pos) (eComp2 pt fi tt fi1 pt1 tt1 fe (own.map (·.2)) vs1) :=
  pe_imp (pe_lc2 hc hN hi ok hv hg ht hi1 hg1 ht1 he hs hs1) fun σ H Q h => comp2_red hsl hsl1 h
/-- x = [..], the new list's own road -/
theorem gs_setLc {i : Nat} {y : Str} {py spos : Pos} (hc : X.calm = true) (hN : X.N.Nodup) (hy : X.N[i]? = some y) (hyl : X.env.scope.names.lookup y = some .local)
    (hsw : swapsWith (.ListComp elt [⟨tg, iter, ifs, 0⟩] scope pos) (some (.Name y py)) spos.line X.env = pure true) (hi : GI X cm W tg iter fi) (ok : BlkOk X.N X.env.scope scope own)
    (hg : ∀ (s : Shared) (H : Hp) (C : Addr) (cl : List (Str × Addr)) (fp : List Addr), GG (X.blk s H scope (compEnvC scope cl C X.env) fp) cm tg pt) (ht : ∀ (s : Shared) (H : Hp) (C : Addr) (cl : List (Str × Addr)) (fp : List Addr), GTs (X.blk s H scope (compEnvC scope cl C X.env) fp) cm W0 ifs tt)
    (he : ∀ (s : Shared) (H : Hp) (C : Addr) (cl : List (Str × Addr)) (fp : List Addr), GE (X.blk s H scope (compEnvC scope cl C X.env) fp) cm W0 elt fe) (hsl : ∀ i ∈ pt.slots, i ∈ own.map (·.2) := by decide) (hs : ∀ x, foldedSetIterable iter X.env x = pure x := by intro _; rfl) :
    GS X cm W (.Assign [.Name y py] (.ListComp elt [⟨tg, iter, ifs, 0⟩] scope pos) spos) (sSet i (eComp pt fi tt fe (own.map (·.2)))) :=
  ps_imp (ps_setLc hc hN hy hyl hsw hi ok hg ht he hs) fun D σ H ⟨p, ok, h⟩ => comp_red hsl ⟨p, ok, finE (W := W) (okQ := fun x S1 D1 H1 => ∀ v, VR cm p.A D1 p.Ow x v → D.nx (σ.set i (some v)) H1) ok h (fun x S1 D1 H1 _ ok1 s k v r => by
    split at k
    · rename_i hn
      exact k D1 p.Ow _ H1 ⟨ok1.wd, ok1.er.set r fun ds z => by subst z; cases hn⟩ (.refl _)
    · exact absurd k id) fun e S1 D1 H1 z => z⟩
theorem gs_setLc2 {i : Nat} {y : Str} {py spos : Pos} (hc : X.calm = true) (hN : X.N.Nodup) (hy : X.N[i]? = some y) (hyl : X.env.scope.names.lookup y = some .local)
    (hsw : swapsWith (.ListComp elt [⟨tg, iter, ifs, 0⟩, ⟨tg1, iter1, ifs1, 0⟩] scope pos) (some (.Name y py)) spos.line X.env = pure true) (hi : GI X cm W tg iter fi) (ok : BlkOk X.N X.env.scope scope own) (hv : ∀ i ∈ vs1, i ∈ own.map (·.2))
    (hg : ∀ (s : Shared) (H : Hp) (C : Addr) (cl : List (Str × Addr)) (fp : List Addr), GG (X.blk s H scope (compEnvC scope cl C X.env) fp) cm tg pt) (ht : ∀ (s : Shared) (H : Hp) (C : Addr) (cl : List (Str × Addr)) (fp : List Addr), GTs (X.blk s H scope (compEnvC scope cl C X.env) fp) cm W0 ifs tt)
    (hi1 : ∀ (s : Shared) (H : Hp) (C : Addr) (cl : List (Str × Addr)) (fp : List Addr), GI (X.blk s H scope (compEnvC scope cl C X.env) fp) cm W0 tg1 iter1 fi1)
    (hg1 : ∀ (s : Shared) (H : Hp) (C : Addr) (cl : List (Str × Addr)) (fp : List Addr), GG (X.blk s H scope (compEnvC scope cl C X.env) fp) cm tg1 pt1) (ht1 : ∀ (s : Shared) (H : Hp) (C : Addr) (cl : List (Str × Addr)) (fp : List Addr), GTs (X.blk s H scope (compEnvC scope cl C X.env) fp) cm W0 ifs1 tt1)
    (he : ∀ (s : Shared) (H : Hp) (C : Addr) (cl : List (Str × Addr)) (fp : List Addr), GE (X.blk s H scope (compEnvC scope cl C X.env) fp) cm W0 elt fe) (hsl : ∀ i ∈ pt.slots, i ∈ own.map (·.2) := by decide) (hsl1 : ∀ i ∈ pt1.slots, i ∈ vs1 := by decide) (hs : ∀ x, foldedSetIterable iter X.env x = pure x := by intro _; rfl) (hs1 : ∀ env x, foldedSetIterable iter1 env x = pure x := by intro _ _; rfl) :
    GS X cm W (.Assign [.Name y py] (.ListComp elt [⟨tg, iter, ifs, 0⟩, ⟨tg1, iter1, ifs1, 0⟩] scope pos) spos) (sSet i (eComp2 pt fi tt fi1 pt1 tt1 fe (own.map (·.2)) vs1)) :=
  ps_imp (ps_setLc2 hc hN hy hyl hsw hi ok hv hg ht hi1 hg1 ht1 he hs hs1) fun D σ H ⟨p, ok, h⟩ => comp2_red hsl hsl1 ⟨p, ok, finE (W := W) (okQ := fun x S1 D1 H1 => ∀ v, VR cm p.A D1 p.Ow x v → D.nx (σ.set i (some v)) H1) ok h (fun x S1 D1 H1 _ ok1 s k v r => by
    split at k
    · rename_i hn
      exact k D1 p.Ow _ H1 ⟨ok1.wd, ok1.er.set r fun ds z => by subst z; cases hn⟩ (.refl _)
    · exact absurd k id) fun e S1 D1 H1 z => z⟩
end
end Sm

set_option maxHeartbeats 4000000
namespace Sm
open PySem PySem.Spec PyProof.Rows L2 Lf

/-! ## defs -/
def retV : Vl → Vl
  | .o ds => .d (.list ds)
  | x => x
def outR (r : Option (Out × Env × Sto)) : R Vl := match r with
  | some (.rt x, _, S) => .ok (retV x) S
  | some (.nx, _, S) => .ok (.d .none) S
  | some (.er e, _, S) => .er e S
  | _ => .no
/-- a def of n names, its body b -/
def runF (n : Nat) (b : Sx) : Fn := fun xs S => if xs.all notO then outR (b (xs.map some ++ List.replicate (n - xs.length) none) S) else .no
def spF (cm : CM) (n : Nat) (F : Fn) : Sp := fun vs H Q E => ∃ (A : List Addr) (S : Sto) (D : Hp) (Fr : List (Addr × HO)) (xs : List Vl), vs.length = n ∧ Wd cm A S D Fr H ∧ VRs cm A D [] xs vs ∧
  fin cm A Fr D (F xs S) (fun x _ D' H' => ∀ v, VR cm A D' [] x v → Q v H') (fun e _ D' H' => ∀ cl dd, XR cm D' H' e cl dd → E cl dd H')
theorem VRs.length {cm : CM} {A : List Addr} {D : Hp} {Ow : List (Addr × HO)} : ∀ {xs : List Vl} {vs : List V}, VRs cm A D Ow xs vs → xs.length = vs.length
  | _, _, .nil => rfl
  | _, _, .cons _ h => congrArg (· + 1) (VRs.length h)
theorem VRs.get {cm : CM} {A : List Addr} {D : Hp} {Ow : List (Addr × HO)} : ∀ {xs : List Vl} {vs : List V} {i : Nat} {x : Vl}, VRs cm A D Ow xs vs → xs[i]? = some x → ∃ v, vs[i]? = some v ∧ VR cm A D Ow x v
  | _, _, 0, _, .cons h _, e => by simp at e; subst e; exact ⟨_, rfl, h⟩
  | _, _, i + 1, _, .cons _ h, e => by
    obtain ⟨v, h1, h2⟩ := VRs.get (i := i) h (by simpa using e)
    exact ⟨v, by simpa using h1, h2⟩
  | _, _, _, _, .nil, e => by simp at e
theorem er_start {cm : CM} {A : List Addr} {D : Hp} {xs : List Vl} {vs : List V} {N : List Str} (h : VRs cm A D [] xs vs) (hn : xs.all notO = true) : Er cm A D [] (xs.map some ++ List.replicate (N.length - xs.length) none) (L2.start N vs) := by
  have hl := h.length
  have own : ∀ i, isOwn (xs.map some ++ List.replicate (N.length - xs.length) none)[i]? = false := fun i => by
    rw [List.getElem?_append]
    split
    · rw [List.getElem?_map]
      cases e : xs[i]? with
      | none => rfl
      | some x =>
        have hx := (List.all_eq_true.mp hn) x (List.mem_of_getElem? e)
        cases x with
        | o ds => cases hx
        | d _ => rfl
        | c _ => rfl
    · rw [List.getElem?_replicate]
      split <;> rfl
  refine ⟨?_, fun i x e => ?_, fun i j a _ h1 => by rw [own i] at h1; cases h1⟩
  · unfold L2.start
    simp only [List.length_append, List.length_map, List.length_replicate]
    omega
  · unfold L2.start
    rw [List.getElem?_append] at e ⊢
    rw [List.length_map] at e ⊢
    by_cases hi : i < xs.length
    · rw [if_pos hi, List.getElem?_map] at e
      rw [if_pos (by omega), List.getElem?_map]
      cases e1 : xs[i]? with
      | none => rw [e1] at e; cases e
      | some y =>
        rw [e1] at e
        cases e
        obtain ⟨v, h1, h2⟩ := h.get e1
        exact ⟨v, by rw [h1]; rfl, h2⟩
    · rw [if_neg hi, List.getElem?_replicate] at e
      split at e <;> cases e
/-- what is handed back -/
theorem ret_ok {cm : CM} {A : List Addr} {S : Sto} {D : Hp} {Ow Fr : List (Addr × HO)} {H : Hp} {x : Vl} {v : V} (w : Wd cm A S D (Ow ++ Fr) H) (r : VR cm A D Ow x v) : ∃ D', Wd cm A S D' Fr H ∧ Same D D' ∧ VR cm A D' [] (retV x) v := by
  cases x with
  | d y => exact ⟨D, w.dropL, .refl _, r⟩
  | c n => exact ⟨D, w.dropL, .refl _, r⟩
  | o ds =>
    obtain ⟨a, xs, rfl, hm, hd⟩ := r
    obtain ⟨O1, O2, e⟩ := List.append_of_mem hm
    rw [e] at w
    have w' : Wd cm A S D (O1 ++ (a, .lst xs) :: (O2 ++ Fr)) H := by rw [List.append_assoc, List.cons_append] at w; exact w
    obtain ⟨w2, s⟩ := w'.toD
    rw [← List.append_assoc] at w2
    exact ⟨_, w2.dropL, s, .lst upd_same (hd.mono s)⟩
section
variable {P : Program} {w : World} {K : PySem.W.Frag} {mg : Str → Option Value} {base : Heap} {f : Addr} {fd : FuncData} {cm : CM}
/-- THE RULE for a def -/
theorem gfn {x qual : Str} {st : Stmt} {N ps : List Str} {k : Nat} {b : Sx} (F : L2.Fun K x qual st f fd) (S : FnScope N ps (defScope st))
    (hb : ∀ (cdv : Value) (A : Around) (outer : List PySem.Env) (s : Shared) (H : Hp) (E : XK), Room k (A.deeper (envOfC qual (defScope st) s.heap.objs.size f cdv)) → GSs (cxOf (L2.CX P w) P w K mg base N qual (defScope st) f cdv A outer s H E) cm (fun cls d _ H => E cls d H) (defBody st) b) :
    FnOk P w K mg base (L2.CX P w) (k + 1) f fd ps (spF cm ps.length (runF N.length b)) := by
  refine F.okX S (fun vs H Q E h => ?_) (fun cdv A outer s H vs Q E hr h => ?_)
  · obtain ⟨_, _, _, _, _, h, _⟩ := h
    exact h
  obtain ⟨A0, S0, D0, Fr, xs, hl, wd, hv, h⟩ := h
  refine ⟨_, hb cdv A outer s H E hr, ?_⟩
  unfold runF at h
  by_cases hn : xs.all notO = true
  · rw [if_pos hn] at h
    refine ⟨⟨A0, S0, D0, [], Fr, xs.map some ++ List.replicate (N.length - xs.length) none⟩, ⟨by rw [List.nil_append]; exact wd, er_start hv hn⟩, ?_⟩
    dsimp only
    cases e : b (xs.map some ++ List.replicate (N.length - xs.length) none) S0 with
    | none => rw [e] at h; exact h
    | some t =>
      obtain ⟨o, ρ', S'⟩ := t
      rw [e] at h
      intro D' Ow' σ' H' ok' s'
      cases o with
      | nx => exact h D' H' ok'.wd.dropL s' .non .non
      | bk => exact absurd h id
      | ct => exact absurd h id
      | rt x =>
        intro v r
        obtain ⟨D2, w2, s2, r2⟩ := ret_ok ok'.wd r
        exact h D2 H' w2 (s'.trans s2) v r2
      | er x => exact fun cl dd xr => h D' H' ok'.wd.dropL s' cl dd xr
  · rw [if_neg hn] at h
    exact absurd h id
end
/-- a def of the text, by what it does -/
def GF (P : Program) (w : World) (K : PySem.W.Frag) (mg : Str → Option Value) (base : Heap) (cm : CM) (k : Nat) (x : Str) (ps : List Str) (F : Fn) : Prop :=
  ∃ (f : Addr) (fd : FuncData), FnOk P w K mg base (L2.CX P w) k f fd ps (spF cm ps.length F) ∧ mg x = some (.ref f) ∧ PySem.W.keepIn K (.ref f) = true ∧ Binds K fd ps []
def callF (n : Nat) (F : Fn) : List Vl → M Vl := fun xs S => if xs.all notO && xs.length == n then F xs S else .no
theorem VRs.noO {cm : CM} {A : List Addr} {D : Hp} {Ow : List (Addr × HO)} : ∀ {xs : List Vl} {vs : List V}, xs.all notO = true → VRs cm A D Ow xs vs → VRs cm A D [] xs vs
  | _, _, _, .nil => .nil
  | .d x :: xs, _, h, .cons h1 h2 => .cons h1 (VRs.noO (by simpa [notO] using h) h2)
  | .c x :: xs, _, h, .cons h1 h2 => .cons h1 (VRs.noO (by simpa [notO] using h) h2)
  | .o x :: xs, _, h, .cons h1 h2 => by simp [notO] at h
section
variable {X : Cx} {cm : CM} {W : WX} {k n : Nat} {x : Str} {ps : List Str} {F : Fn} {e : Expr} {es : List Expr} {fs : Exs} {p pos : Pos}
theorem call_fin {p : Pk} {σ : L2.St} {H : Hp} {Q : VK} {xs : List Vl} {S1 : Sto} {D1 : Hp} {vs : List V} (ok : Pk.Ok cm ⟨p.A, S1, D1, p.Ow, p.Fr, p.ρ⟩ σ H) (r : VRs cm p.A D1 p.Ow xs vs)
    (h : fin cm p.A (p.Ow ++ p.Fr) D1 (callF ps.length F xs S1) (fun x _ D' H' => ∀ v, VR cm p.A D' p.Ow x v → Q v H') (erW cm W σ)) : spF cm ps.length F vs H Q (WE W σ) := by
  unfold callF at h
  by_cases hn : (xs.all notO && xs.length == ps.length) = true
  · rw [if_pos hn] at h
    rw [Bool.and_eq_true, beq_iff_eq] at hn
    refine ⟨p.A, S1, D1, p.Ow ++ p.Fr, xs, by rw [← r.length]; exact hn.2, ok.wd, r.noO hn.1, h.imp (fun x S2 D2 H2 w2 s2 k v r2 => ?_) (fun e S2 D2 H2 w2 s2 k => k)⟩
    cases x with
    | d y => exact k v r2
    | c m => exact k v r2
    | o ds =>
      obtain ⟨a, xs2, _, hm, _⟩ := r2
      cases hm
  · rw [if_neg hn] at h
    exact absurd h id
theorem g_call (G : GF X.prog X.w X.K X.mg X.base cm k x ps F) (tk : Takes X W) (hr : Room k X.A) (ha : GA X cm W (e :: es) fs) (hg : Gl X x := by rfl) (hdb : (x == ("__debug__" : Str)) = false := by decide)
    (he : starEach (e :: es) X.env = (false, eval e X.env) :: starEach es X.env := by rfl) (hpl : (backTo pos (starEach es X.env)).any (·.1) = false := by rfl) (hn : ps.length = n := by rfl) :
    GE X cm W (.Call (.Name x p) (e :: es) [] pos) (eArgs (callF n F) fs) := by
  subst hn
  obtain ⟨f, fd, ok, m, kp, b⟩ := G
  exact pe_imp (pe_callS ok hr hg m kp b (fun σ => passAt tk σ) ha hdb he hpl) fun σ H Q ⟨p, ok, h⟩ => ⟨p, ok, (fin.bind h).imp (fun xs S1 D1 H1 w1 s1 k vs r => call_fin (ok.on w1 s1) r k) fun _ _ _ _ _ _ z => z⟩
theorem g_call0 (G : GF X.prog X.w X.K X.mg X.base cm k x [] F) (tk : Takes X W) (hr : Room k X.A) (hg : Gl X x := by rfl) (hdb : (x == ("__debug__" : Str)) = false := by decide) :
    GE X cm W (.Call (.Name x p) [] [] pos) (fun _ => callF 0 F []) := by
  obtain ⟨f, fd, ok, m, kp, b⟩ := G
  refine ⟨fun pins s σ H Q I ⟨p, okp, h⟩ => ?_⟩
  refine wpAny_Call_Name_kw (ld_glob I hg m ?_ hdb)
  refine PySem.W.callWith_K0 I.kIn kp (run_fnS (us := []) (vs := []) (E := WE W) ok hr b (passAt tk σ) I .nil ?_)
  exact call_fin (ps := []) (p := p) (xs := []) (S1 := p.S) (D1 := p.D) okp .nil h
end

/-! ## cells and own lists -/
/-- x = [..], to be written later -/
def sOwn (i : Nat) (es : Exs) : Sx := fun ρ S => match es ρ S with
  | .ok xs S1 => match datas xs with
    | some ds => if ds.length ≤ big then some (.nx, ρ.set i (some (.o ds)), S1) else none
    | none => none
  | .er e S1 => some (.er e, ρ, S1)
  | .no => none
/-- x is data from here on -/
def sFrz (i : Nat) (b : Sx) : Sx := fun ρ S => match ρ[i]? with
  | some (some (.o ds)) => b (ρ.set i (some (.d (.list ds)))) S
  | _ => none
section
variable {cm : CM} {A : List Addr} {S : Sto} {D : Hp} {Ow Fr : List (Addr × HO)} {H : Hp} {ρ : Env} {σ : L2.St} {a : Addr} {xs : List V} {ds : List PyData} {i : Nat}
/-- a name holds a list of its own -/
theorem Er.own (w : Wd cm A S D (Ow ++ Fr) H) (h : Er cm A D Ow ρ σ) (na : H a = none) (hd : DvA cm D xs ds) : Er cm A D ((a, .lst xs) :: Ow) (ρ.set i (some (.o ds))) (σ.set i (some (.ref a))) := by
  have fresh : ∀ (j : Nat), isOwn ρ[j]? = true → σ[j]? ≠ some (some (.ref a)) := fun j ho e => by
    cases e1 : ρ[j]? with
    | none => rw [e1] at ho; cases ho
    | some o =>
      cases o with
      | none => rw [e1] at ho; cases ho
      | some x =>
        cases x with
        | d _ => rw [e1] at ho; cases ho
        | c _ => rw [e1] at ho; cases ho
        | o es =>
          obtain ⟨v, h1, b, ys, rfl, hm, _⟩ := h.at' j _ e1
          rw [e] at h1
          cases h1
          have := (w.frs _ (List.mem_append_left _ hm)).1
          rw [na] at this
          cases this
  have own : ∀ m, isOwn (ρ.set i (some (.o ds)))[m]? = true → m = i ∨ (m ≠ i ∧ isOwn ρ[m]? = true) := fun m hm => by
    by_cases hi : m = i
    · exact .inl hi
    · rw [List.getElem?_set_ne (Ne.symm hi)] at hm
      exact .inr ⟨hi, hm⟩
  refine ⟨by rw [List.length_set, List.length_set]; exact h.len, fun j y e => ?_, fun j k b hjk h1 h2 e1 e2 => ?_⟩
  · rw [List.getElem?_set] at e ⊢
    by_cases hij : i = j
    · rw [if_pos hij] at e ⊢
      split at e
      · rename_i hl
        cases e
        exact ⟨.ref a, by rw [if_pos (by have := h.len; omega)], a, xs, rfl, List.mem_cons_self, hd⟩
      · cases e
    · rw [if_neg hij] at e ⊢
      obtain ⟨v, k1, k2⟩ := h.at' j y e
      refine ⟨v, k1, ?_⟩
      cases y with
      | d _ => exact k2
      | c _ => exact k2
      | o es =>
        obtain ⟨b, ys, r1, r2, r3⟩ := k2
        exact ⟨b, ys, r1, List.mem_cons_of_mem _ r2, r3⟩
  · rcases own j h1 with rfl | ⟨n1, o1⟩
    · rcases own k h2 with rfl | ⟨n2, o2⟩
      · exact hjk rfl
      · rw [List.getElem?_set_ne (Ne.symm n2)] at e2
        rw [List.getElem?_set] at e1
        rw [if_pos rfl] at e1
        split at e1
        · cases e1
          exact fresh k o2 e2
        · cases e1
    · rw [List.getElem?_set_ne (Ne.symm n1)] at e1
      rcases own k h2 with rfl | ⟨n2, o2⟩
      · rw [List.getElem?_set] at e2
        rw [if_pos rfl] at e2
        split at e2
        · cases e2
          exact fresh j o1 e1
        · cases e2
      · rw [List.getElem?_set_ne (Ne.symm n2)] at e2
        exact h.ne j k b hjk o1 o2 e1 e2
end
end Sm

set_option maxHeartbeats 4000000
namespace Sm
open PySem PySem.Spec PyProof.Rows L2 Lf

section
variable {cm : CM} {A : List Addr} {S : Sto} {D : Hp} {Ow O1 O2 Fr : List (Addr × HO)} {H : Hp} {ρ : Env} {σ : L2.St} {a : Addr} {xs xs' : List V} {ds ds' : List PyData} {i n : Nat}
/-- an own list is written -/
theorem Er.upO (w : Wd cm A S D ((O1 ++ (a, .lst xs) :: O2) ++ Fr) H) (h : Er cm A D (O1 ++ (a, .lst xs) :: O2) ρ σ) (hi : isOwn ρ[i]? = true) (hs : σ[i]? = some (some (.ref a))) (hd : DvA cm D xs' ds') :
    Er cm A D (O1 ++ (a, .lst xs') :: O2) (ρ.set i (some (.o ds'))) σ := by
  have own : ∀ m, isOwn (ρ.set i (some (.o ds')))[m]? = true → isOwn ρ[m]? = true := fun m hm => by
    by_cases hm2 : m = i
    · rw [hm2]; exact hi
    · rw [List.getElem?_set_ne (Ne.symm hm2)] at hm
      exact hm
  refine ⟨by rw [List.length_set]; exact h.len, fun j y e => ?_, fun j k b hjk h1 h2 => h.ne j k b hjk (own j h1) (own k h2)⟩
  rw [List.getElem?_set] at e
  by_cases hij : i = j
  · rw [if_pos hij] at e
    split at e
    · cases e
      rw [← hij]
      exact ⟨_, hs, a, xs', rfl, List.mem_append_right _ List.mem_cons_self, hd⟩
    · cases e
  · rw [if_neg hij] at e
    obtain ⟨v, k1, k2⟩ := h.at' j y e
    refine ⟨v, k1, ?_⟩
    cases y with
    | d _ => exact k2
    | c _ => exact k2
    | o es =>
      obtain ⟨b, ys, rfl, r2, r3⟩ := k2
      refine ⟨b, ys, rfl, ?_, r3⟩
      rcases List.mem_append.mp r2 with z | z
      · exact List.mem_append_left _ z
      · rcases List.mem_cons.mp z with z | z
        · cases z
          exact (h.ne i j a hij hi (by rw [e]; rfl) hs k1).elim
        · exact List.mem_append_right _ (List.mem_cons_of_mem _ z)
/-- an own list becomes data -/
theorem Er.frz (w : Wd cm A S D ((O1 ++ (a, .lst xs) :: O2) ++ Fr) H) (h : Er cm A D (O1 ++ (a, .lst xs) :: O2) ρ σ) (hi : isOwn ρ[i]? = true) (hs : σ[i]? = some (some (.ref a))) (hd : DvA cm D xs ds) (nd : D a = none) :
    Er cm A (upd D a (.lst xs)) (O1 ++ O2) (ρ.set i (some (.d (.list ds)))) σ := by
  have sD : Same D (upd D a (.lst xs)) := same_new nd _
  have own : ∀ m, isOwn (ρ.set i (some (.d (.list ds))))[m]? = true → m ≠ i ∧ isOwn ρ[m]? = true := fun m hm => by
    by_cases hm2 : i = m
    · rw [List.getElem?_set, if_pos hm2] at hm
      split at hm <;> cases hm
    · rw [List.getElem?_set_ne hm2] at hm
      exact ⟨fun z => hm2 z.symm, hm⟩
  refine ⟨by rw [List.length_set]; exact h.len, fun j y e => ?_, fun j k b hjk h1 h2 => h.ne j k b hjk (own j h1).2 (own k h2).2⟩
  rw [List.getElem?_set] at e
  by_cases hij : i = j
  · rw [if_pos hij] at e
    split at e
    · cases e
      rw [← hij]
      exact ⟨_, hs, .lst upd_same (hd.mono sD)⟩
    · cases e
  · rw [if_neg hij] at e
    obtain ⟨v, k1, k2⟩ := h.at' j y e
    refine ⟨v, k1, ?_⟩
    cases y with
    | d _ => exact Dv.mono sD k2
    | c _ => exact k2
    | o es =>
      obtain ⟨b, ys, rfl, r2, r3⟩ := k2
      refine ⟨b, ys, rfl, ?_, r3.mono sD⟩
      rcases List.mem_append.mp r2 with z | z
      · exact List.mem_append_left _ z
      · rcases List.mem_cons.mp z with z | z
        · cases z
          exact (h.ne i j a hij hi (by rw [e]; rfl) hs k1).elim
        · exact List.mem_append_right _ z
/-- a cell is written -/
theorem Wd.setC {F : List (Addr × HO)} (w : Wd cm A S D F H) (hA : A[n]? = some a) (hn : n < S.length) (hd : DvA cm D xs' ds') : Wd cm A (S.set n ds') D F (upd H a (.lst xs')) := by
  have mA : a ∈ A := List.mem_of_getElem? hA
  have nD := w.out a mA
  refine ⟨fun b u e => ?_, fun q hq => ?_, w.ndF, fun m es e => ?_, w.out, w.ndA, by rw [List.length_set]; exact w.len⟩
  · rw [upd_ne (fun z => by rw [z, nD] at e; cases e)]
    exact w.sub _ _ e
  · obtain ⟨k1, k2, k3⟩ := w.frs q hq
    exact ⟨by rw [upd_ne (fun z : q.1 = a => k3 (z ▸ mA))]; exact k1, k2, k3⟩
  · by_cases hm : m = n
    · rw [hm, List.getElem?_set_self hn] at e
      cases e
      exact ⟨a, xs', by rw [hm]; exact hA, upd_same, hd⟩
    · rw [List.getElem?_set_ne (Ne.symm hm)] at e
      obtain ⟨b, ys, k1, k2, k3⟩ := w.cel m es e
      refine ⟨b, ys, k1, ?_, k3⟩
      rw [upd_ne (fun z => hm ?_)]
      · exact k2
      · rw [z] at k1
        obtain ⟨l1, e1⟩ := List.getElem?_eq_some_iff.mp k1
        obtain ⟨l2, e2⟩ := List.getElem?_eq_some_iff.mp hA
        exact (List.getElem_inj w.ndA).mp (e1.trans e2.symm)
end

/-! ## statements on own lists and cells -/
/-- x.append(e) -/
def sApp (i : Nat) (e : Ex) : Sx := fun ρ S => match ρ[i]? with
  | some (some (.o ds)) => sE (e ρ S) ρ fun x S1 => match x with
    | .d y => if ds.length ≤ big then some (.nx, ρ.set i (some (.o (ds ++ [y]))), S1) else none
    | _ => none
  | _ => none
def putV (i : Nat) (w : Vl) (ρ : Env) (S : Sto) (y : PyData) (k : Int) : Option (Out × Env × Sto) := match w with
  | .o ds => match ixN ds.length k with
    | some j => some (.nx, ρ.set i (some (.o (ds.set j y))), S)
    | none => none
  | .c n => match S[n]? with
    | some ds => match ixN ds.length k with
      | some j => some (.nx, ρ, S.set n (ds.set j y))
      | none => none
    | none => none
  | _ => none
/-- x[k] = e -/
def sPut (i : Nat) (k : Ex) (e : Ex) : Sx := fun ρ S => match ρ[i]? with
  | some (some w) => sE (e ρ S) ρ fun x S1 => match x with
    | .d y => sE (k ρ S1) ρ fun z S2 => match z with
      | .d (.int j) => putV i w ρ S2 y j
      | _ => none
    | _ => none
  | _ => none
section
variable {X : Cx} {cm : CM} {W : WX} {pos apos cpos px : Pos} {e ek : Expr} {f fk : Ex} {x : Str} {i : Nat}
theorem isOwn_of {ρ : Env} {i : Nat} {ds : List PyData} (h : ρ[i]? = some (some (.o ds))) : isOwn ρ[i]? = true := by rw [h]; rfl
theorem gs_app (hN : X.N[i]? = some x) (hv : Vis X.env.scope x) (hd : (x == ("__debug__" : Str)) = false) (hcd : (x == ("__classdict__" : Str)) = false) (he : GE X cm W e f)
    (hbase : attributeBase (.Name x px) "append" X.env (eval (.Name x px) X.env) = eval (.Name x px) X.env := by rfl)
    (hfew : ((backTo cpos (starEach [e] X.env)).all (fun x => !x.1) && (backToKw cpos (keywordEach [] X.env)).all (fun x => x.1.isSome) && decide (([e] : List Expr).length + ([] : List Keyword).length + (if ([] : List Keyword).isEmpty then 0 else 1) < 30)) = true := by rfl)
    (hline : (apos.endLine == cpos.line) = true := by rfl) (hs : starEach [e] X.env = (false, eval e X.env) :: starEach [] X.env := by rfl) (hplain : (backTo cpos (starEach [] X.env)).any (·.1) = false := by rfl)
    (hsw : swapsWith (.Call (.Attribute (.Name x px) "append" apos) [e] [] cpos) none pos.line X.env = pure false := by rfl) :
    GS X cm W (.Expr (.Call (.Attribute (.Name x px) "append" apos) [e] [] cpos) pos) (sApp i f) :=
  ps_imp (ps_expr (pe_bm PySem.F.plainAttrs_list PySem.F.slot_list_append PySem.F.type_list_append mt_append (pe_var hN hv hd hcd) (pa_cons he pa_nil hs) hbase hfew hline hs hplain) hsw) fun Ds σ H ⟨p, ok, h⟩ => by
    unfold sApp at h
    split at h
    · rename_i ds eo
      obtain ⟨v, h1, a, xs, rfl, hm, hd⟩ := ok.er.at' i _ eo
      obtain ⟨O1, O2, eO⟩ := List.append_of_mem hm
      refine ⟨.ref a, h1, .inl ⟨rfl, xs, .of (ok.wd.frs _ (List.mem_append_left _ hm)).1⟩, p, ok, finE (W := W) (okQ := fun y S1 D1 H1 => ∀ u, VR cm p.A D1 p.Ow y u → rAppend (.ref a) [u] H1 (fun _ H2 => Ds.nx σ H2)) ok h (fun y S1 D1 H1 _ ok1 s k u r => ?_) fun e S1 D1 H1 z => z⟩
      cases y with
      | c _ => exact absurd k id
      | o _ => exact absurd k id
      | d y =>
        dsimp only at k
        split at k
        · rename_i hl
          have w1 := ok1.wd
          have e1 := ok1.er
          dsimp only at w1 e1
          rw [eO] at w1 e1
          have w1' : Wd cm p.A S1 D1 (O1 ++ (a, .lst xs) :: (O2 ++ p.Fr)) H1 := by rw [List.append_assoc, List.cons_append] at w1; exact w1
          have w2 := w1'.up (.lst (xs ++ [u]))
          have hd1 : DvA cm D1 (xs ++ [u]) (ds ++ [y]) := (hd.mono s).append (.cons r .nil)
          refine ⟨a, xs, u, rfl, rfl, w1'.at_.1, by rw [hd.length]; exact big_le hl, ?_⟩
          refine k D1 (O1 ++ (a, .lst (xs ++ [u])) :: O2) σ _ ⟨?_, e1.upO w1 (isOwn_of eo) h1 hd1⟩ (.refl _)
          show Wd cm p.A S1 D1 ((O1 ++ (a, .lst (xs ++ [u])) :: O2) ++ p.Fr) _
          rw [List.append_assoc, List.cons_append]
          exact w2
        · exact absurd k id
    · exact absurd h id
theorem gs_put (hN : X.N[i]? = some x) (hv : Vis X.env.scope x) (hd : (x == ("__debug__" : Str)) = false) (hcd : (x == ("__classdict__" : Str)) = false) (hk : GE X cm W ek fk) (he : GE X cm W e f)
    (ha : ∀ v, assign (.Subscript (.Name x px) ek pos) X.env v = (do
      let ov ← holding [v] (eval (.Name x px) X.env)
      let iv ← holding [v, ov] (eval ek X.env)
      standAt pos
      holding [v, ov, iv] (setItem ov iv v)
      release [v, ov, iv] []) := by intro _; rfl)
    (hs : swapsWithSole [.Subscript (.Name x px) ek pos] e cpos.line X.env = pure false := by rfl) (hw : swappedStores [.Subscript (.Name x px) ek pos] e X.env = pure none := by rfl)
    (h1 : (assignEach [.Subscript (.Name x px) ek pos] X.env).map (·.2) = [assign (.Subscript (.Name x px) ek pos) X.env] := by rfl) :
    GS X cm W (.Assign [.Subscript (.Name x px) ek pos] e cpos) (sPut i fk f) :=
  ps_imp (ps_asg he (pg_sub (pe_var hN hv hd hcd) hk set_list ha) hs hw h1) fun Ds σ H ⟨p, ok, h⟩ => by
    unfold sPut at h
    split at h
    · rename_i wv eo
      refine ⟨p, ok, finE (W := W) (okQ := fun y S1 D1 H1 => ∀ u, VR cm p.A D1 p.Ow y u → gSub (tVar i) (tE cm W fk) rSetL u σ H1 Ds.nx) ok h (fun y S1 D1 H1 _ ok1 s k u r => ?_) fun e S1 D1 H1 z => z⟩
      cases y with
      | c _ => exact absurd k id
      | o _ => exact absurd k id
      | d y =>
        dsimp only at k
        obtain ⟨v, q1, q2⟩ := ok1.er.at' i wv eo
        refine ⟨v, q1, ⟨p.A, S1, D1, p.Ow, p.Fr, p.ρ⟩, ok1, finE (W := W) (okQ := fun z S2 D2 H2 => ∀ t, VR cm p.A D2 p.Ow z t → rSetL v t u H2 fun H3 => Ds.nx σ H3) ok1 k (fun z S2 D2 H2 _ ok2 s2 k2 t r2 => ?_) fun e S1 D1 H1 z => z⟩
        split at k2
        · rename_i j _
          cases r2
          have hu : Dv cm D2 u y := Dv.mono s2 r
          unfold putV at k2
          split at k2
          · rename_i ds
            obtain ⟨a, xs, rfl, hm, hd⟩ := VR.mono (x := .o ds) s2 q2
            split at k2
            · rename_i jj ej
              obtain ⟨O1, O2, eO⟩ := List.append_of_mem hm
              have w1 := ok2.wd
              have e1 := ok2.er
              dsimp only at w1 e1
              rw [eO] at w1 e1
              have w1' : Wd cm p.A S2 D2 (O1 ++ (a, .lst xs) :: (O2 ++ p.Fr)) H2 := by rw [List.append_assoc, List.cons_append] at w1; exact w1
              refine ⟨a, xs, j, jj, rfl, rfl, w1'.at_.1, by rw [hd.length]; exact ej, ?_⟩
              refine k2 D2 (O1 ++ (a, .lst (xs.set jj u)) :: O2) σ _ ⟨?_, e1.upO w1 (isOwn_of eo) q1 (hd.set jj hu)⟩ (.refl _)
              show Wd cm p.A S2 D2 ((O1 ++ (a, .lst (xs.set jj u)) :: O2) ++ p.Fr) _
              rw [List.append_assoc, List.cons_append]
              exact w1'.up _
            · exact absurd k2 id
          · rename_i n
            split at k2
            · rename_i ds eS
              split at k2
              · rename_i jj ej
                obtain ⟨a, ha, rfl⟩ := q2
                obtain ⟨a2, xs, g1, g2, g3⟩ := ok2.wd.cel n ds eS
                dsimp only at g1
                rw [ha] at g1
                cases g1
                refine ⟨a, xs, j, jj, rfl, rfl, g2, by rw [g3.length]; exact ej, ?_⟩
                exact k2 D2 p.Ow σ _ ⟨ok2.wd.setC ha (List.getElem?_eq_some_iff.mp eS).1 (g3.set jj hu), ok2.er⟩ (.refl _)
              · exact absurd k2 id
            · exact absurd k2 id
          · exact absurd k2 id
        · exact absurd k2 id
    · exact absurd h id
/-- x = [..], a list of its own -/
theorem gs_own {es : List Expr} {fs : Exs} {pos' : Pos} (hN : X.N.Nodup) (hi : X.N[i]? = some x) (hx : Loc X.env.scope x) (he : GA X cm W es fs) (hs : swapsWith (.List es cpos) (some (.Name x pos')) pos.line X.env = pure false := by rfl) (hf : X.fn x = true ∨ X.env.scope.names.lookup x = some .local := by first | exact .inl rfl | exact .inr rfl | assumption) :
    GS X cm W (.Assign [.Name x pos'] (.List es cpos) pos) (sOwn i fs) :=
  ps_imp (ps_set hN hi hx (pe_lst he) hs hf) fun Ds σ H ⟨p, ok, h⟩ => by
    refine ⟨p, ok, ?_⟩
    unfold sOwn at h
    cases e : fs p.ρ p.S with
    | no => rw [e] at h; exact absurd h id
    | er x S1 => rw [e] at h; exact fun D1 H1 w s => h D1 p.Ow σ H1 (ok.on w s) s
    | ok xs S1 =>
      rw [e] at h
      dsimp only at h
      intro D1 H1 w1 s1 vs r
      split at h
      · rename_i ds ed
        split at h
        · rename_i hl
          have hd := datas_dv ed r
          refine ⟨by rw [hd.length]; exact Nat.le_of_lt (big_le hl), fun a na => ?_⟩
          exact h D1 ((a, .lst vs) :: p.Ow) _ _ ⟨w1.newF na _, (ok.er.mono s1).own w1 na hd⟩ s1
        · exact absurd h id
      · exact absurd h id
/-- from here on x is data -/
theorem gss_frz {sts : List Stmt} {b : Sx} (h : GSs X cm W sts b) : GSs X cm W sts (sFrz i b) :=
  pss_imp h fun Ds σ H ⟨p, ok, h⟩ => by
    unfold sFrz at h
    split at h
    · rename_i ds eo
      obtain ⟨v, h1, a, xs, rfl, hm, hd⟩ := ok.er.at' i _ eo
      obtain ⟨O1, O2, eO⟩ := List.append_of_mem hm
      have w1 := ok.wd
      have e1 := ok.er
      rw [eO] at w1 e1
      have w1' : Wd cm p.A p.S p.D (O1 ++ (a, .lst xs) :: (O2 ++ p.Fr)) H := by rw [List.append_assoc, List.cons_append] at w1; exact w1
      obtain ⟨w2, s2⟩ := w1'.toD
      refine ⟨⟨p.A, p.S, upd p.D a (.lst xs), O1 ++ O2, p.Fr, p.ρ.set i (some (.d (.list ds)))⟩, ⟨?_, e1.frz w1 (isOwn_of eo) h1 hd w1'.at_.2.1⟩, finS.on h rfl rfl s2⟩
      rw [← List.append_assoc] at w2
      exact w2
    · exact absurd h id
end
end Sm

set_option maxHeartbeats 4000000
namespace Sm
open PySem PySem.Spec PyProof.Rows L2 Lf

/-! ## reading data as ints, truths, texts -/
def asInts : List PyData → Option (List Int)
  | [] => some []
  | .int i :: r => match asInts r with
    | some ns => some (i :: ns)
    | none => none
  | _ :: _ => none
def asBools : List PyData → Option (List Bool)
  | [] => some []
  | .bool i :: r => match asBools r with
    | some ns => some (i :: ns)
    | none => none
  | _ :: _ => none
def asStrs : List PyData → Option (List Str)
  | [] => some []
  | .str i :: r => match asStrs r with
    | some ns => some (i :: ns)
    | none => none
  | _ :: _ => none
theorem asInts_eq : ∀ {ds : List PyData} {ns : List Int}, asInts ds = some ns → ds = ns.map PyData.int
  | [], _, e => by cases e; rfl
  | .int i :: r, _, e => by
    unfold asInts at e
    split at e
    · rename_i ns e2
      cases e
      rw [asInts_eq e2]
      rfl
    · cases e
  | .none :: _, _, e => by cases e
  | .bool _ :: _, _, e => by cases e
  | .str _ :: _, _, e => by cases e
  | .list _ :: _, _, e => by cases e
  | .tuple _ :: _, _, e => by cases e
  | .dict _ :: _, _, e => by cases e
theorem asInts_map : ∀ ns : List Int, asInts (ns.map PyData.int) = some ns
  | [] => rfl
  | n :: ns => by
    show (match asInts (ns.map PyData.int) with
      | some ns => some (n :: ns)
      | none => none) = _
    rw [asInts_map ns]
theorem asBools_eq : ∀ {ds : List PyData} {ns : List Bool}, asBools ds = some ns → ds = ns.map PyData.bool
  | [], _, e => by cases e; rfl
  | .bool i :: r, _, e => by
    unfold asBools at e
    split at e
    · rename_i ns e2
      cases e
      rw [asBools_eq e2]
      rfl
    · cases e
  | .none :: _, _, e => by cases e
  | .int _ :: _, _, e => by cases e
  | .str _ :: _, _, e => by cases e
  | .list _ :: _, _, e => by cases e
  | .tuple _ :: _, _, e => by cases e
  | .dict _ :: _, _, e => by cases e
theorem asBools_map : ∀ ns : List Bool, asBools (ns.map PyData.bool) = some ns
  | [] => rfl
  | n :: ns => by
    show (match asBools (ns.map PyData.bool) with
      | some ns => some (n :: ns)
      | none => none) = _
    rw [asBools_map ns]
theorem asStrs_eq : ∀ {ds : List PyData} {ns : List Str}, asStrs ds = some ns → ds = ns.map PyData.str
  | [], _, e => by cases e; rfl
  | .str i :: r, _, e => by
    unfold asStrs at e
    split at e
    · rename_i ns e2
      cases e
      rw [asStrs_eq e2]
      rfl
    · cases e
  | .none :: _, _, e => by cases e
  | .int _ :: _, _, e => by cases e
  | .bool _ :: _, _, e => by cases e
  | .list _ :: _, _, e => by cases e
  | .tuple _ :: _, _, e => by cases e
  | .dict _ :: _, _, e => by cases e
theorem dvA_ints {cm : CM} {D : Hp} : ∀ {ns : List Int} {vs : List V}, DvA cm D vs (ns.map PyData.int) → vs = ns.map V.int
  | [], _, h => by cases h; rfl
  | n :: ns, _, h => by
    cases h with
    | cons h1 h2 =>
      cases h1
      rw [dvA_ints h2]
      rfl
theorem dvA_bools {cm : CM} {D : Hp} : ∀ {ns : List Bool} {vs : List V}, DvA cm D vs (ns.map PyData.bool) → vs = ns.map V.bl
  | [], _, h => by cases h; rfl
  | n :: ns, _, h => by
    cases h with
    | cons h1 h2 =>
      cases h1
      rw [dvA_bools h2]
      rfl
theorem dvA_strs {cm : CM} {D : Hp} : ∀ {ns : List Str} {vs : List V}, DvA cm D vs (ns.map PyData.str) → vs = ns.map V.str
  | [], _, h => by cases h; rfl
  | n :: ns, _, h => by
    cases h with
    | cons h1 h2 =>
      cases h1
      rw [dvA_strs h2]
      rfl
theorem DvA.strs {cm : CM} {D : Hp} : ∀ (ns : List Str), DvA cm D (ns.map V.str) (ns.map PyData.str)
  | [] => .nil
  | n :: ns => .cons (.str n) (DvA.strs ns)

/-! ## one argument -/
theorem dwA1 {cm : CM} {D H : Hp} {vs : List V} {a : PyData} (h : DwA cm D H vs [a]) : ∃ v, vs = [v] ∧ Dw cm D H v a := by
  cases h with
  | cons h1 h2 => cases h2; exact ⟨_, rfl, h1⟩
theorem dwA2 {cm : CM} {D H : Hp} {vs : List V} {a b : PyData} (h : DwA cm D H vs [a, b]) : ∃ v u, vs = [v, u] ∧ Dw cm D H v a ∧ Dw cm D H u b := by
  cases h with
  | cons h1 h2 =>
    obtain ⟨u, rfl, h3⟩ := dwA1 h2
    exact ⟨_, _, rfl, h1, h3⟩
/-- a list or a tuple, read -/
theorem Dw.seq {cm : CM} {D H : Hp} {v : V} {ds : List PyData} {K : PySem.W.Frag} (s : Same D H) (h : Dw cm D H v (.list ds) ∨ Dw cm D H v (.tuple ds)) : ∃ a xs, v = .ref a ∧ (SqL K H a xs ∨ SqT K H a xs) ∧ DvA cm D xs ds := by
  rcases h with h | h
  · obtain ⟨a, xs, rfl, h1, h2⟩ := h.lst s
    exact ⟨a, xs, rfl, .inl (.of h1), h2⟩
  · obtain ⟨a, xs, rfl, h1, h2⟩ := h.tup
    exact ⟨a, xs, rfl, .inr (.of (s _ _ h1)), h2⟩
def fLen : List PyData → Option PyData
  | [.list ds] => some (.int ds.length)
  | [.tuple ds] => some (.int ds.length)
  | [.str x] => if x.length ≤ big then some (.int x.length) else none
  | _ => none
def fSum : List PyData → Option PyData
  | [.list ds] => match asInts ds with
    | some ns => some (.int ns.sum)
    | none => none
  | _ => none
def minI : List Int → Int → Int
  | [], m => m
  | n :: ns, m => minI ns (if n < m then n else m)
def maxI : List Int → Int → Int
  | [], m => m
  | n :: ns, m => maxI ns (if n > m then n else m)
def fMin : List PyData → Option PyData
  | [.int i, .int j] => some (.int (if j < i then j else i))
  | [.list ds] => match asInts ds with
    | some (n :: ns) => some (.int (minI ns n))
    | _ => none
  | _ => none
def fMax : List PyData → Option PyData
  | [.int i, .int j] => some (.int (if j > i then j else i))
  | [.list ds] => match asInts ds with
    | some (n :: ns) => some (.int (maxI ns n))
    | _ => none
  | _ => none
def fAll : List PyData → Option PyData
  | [.list ds] => match asBools ds with
    | some bs => some (.bool (bs.all id))
    | none => none
  | _ => none
def fAny : List PyData → Option PyData
  | [.list ds] => match asBools ds with
    | some bs => some (.bool (bs.any id))
    | none => none
  | _ => none
def fAbs : List PyData → Option PyData
  | [.int i] => some (.int (if i < 0 then -i else i))
  | _ => none
def fInt : List PyData → Option PyData
  | [.int i] => some (.int i)
  | [.bool b] => some (.int (if b then 1 else 0))
  | _ => none
def fTuple : List PyData → Option PyData
  | [.list ds] => some (.tuple ds)
  | [.tuple ds] => some (.tuple ds)
  | _ => none
def fList : List PyData → Option PyData
  | [.list ds] => some (.list ds)
  | [.tuple ds] => some (.list ds)
  | _ => none
theorem minI_le : ∀ (ns : List Int) (m : Int), minI ns m ≤ m ∧ ∀ y ∈ ns, minI ns m ≤ y
  | [], m => ⟨Int.le_refl _, fun y h => by cases h⟩
  | n :: ns, m => by
    obtain ⟨h1, h2⟩ := minI_le ns (if n < m then n else m)
    show minI ns (if n < m then n else m) ≤ m ∧ _
    refine ⟨Int.le_trans h1 (by split <;> omega), fun y hy => ?_⟩
    rcases List.mem_cons.mp hy with rfl | hy
    · exact Int.le_trans h1 (by split <;> omega)
    · exact h2 y hy
theorem minI_mem : ∀ (ns : List Int) (m : Int), minI ns m ∈ m :: ns
  | [], m => List.mem_cons_self
  | n :: ns, m => by
    have h := minI_mem ns (if n < m then n else m)
    show minI ns (if n < m then n else m) ∈ _
    rcases List.mem_cons.mp h with h | h
    · rw [h]
      split
      · exact List.mem_cons_of_mem _ List.mem_cons_self
      · exact List.mem_cons_self
    · exact List.mem_cons_of_mem _ (List.mem_cons_of_mem _ h)
theorem maxI_le : ∀ (ns : List Int) (m : Int), m ≤ maxI ns m ∧ ∀ y ∈ ns, y ≤ maxI ns m
  | [], m => ⟨Int.le_refl _, fun y h => by cases h⟩
  | n :: ns, m => by
    obtain ⟨h1, h2⟩ := maxI_le ns (if n > m then n else m)
    show m ≤ maxI ns (if n > m then n else m) ∧ _
    refine ⟨Int.le_trans (by split <;> omega) h1, fun y hy => ?_⟩
    rcases List.mem_cons.mp hy with rfl | hy
    · exact Int.le_trans (by split <;> omega) h1
    · exact h2 y hy
theorem maxI_mem : ∀ (ns : List Int) (m : Int), maxI ns m ∈ m :: ns
  | [], m => List.mem_cons_self
  | n :: ns, m => by
    have h := maxI_mem ns (if n > m then n else m)
    show maxI ns (if n > m then n else m) ∈ _
    rcases List.mem_cons.mp h with h | h
    · rw [h]
      split
      · exact List.mem_cons_of_mem _ List.mem_cons_self
      · exact List.mem_cons_self
    · exact List.mem_cons_of_mem _ (List.mem_cons_of_mem _ h)
section
variable {X : Cx} {cm : CM}
theorem ca_or {g : Value} {f f' : List PyData → Option PyData} (h : Ca X cm g f) (h' : Ca X cm g f') : Ca X cm g (fun as => match f as with | some c => some c | none => f' as) := by
  obtain ⟨r, h1, h2⟩ := h
  obtain ⟨r', k1, k2⟩ := h'
  refine ⟨fun xs H Q => r xs H Q ∨ r' xs H Q, fun pins s σ H xs us Q I rv q => q.elim (h1 pins s σ H xs us Q I rv) (k1 pins s σ H xs us Q I rv), fun A S D F H xs as c Q w hx e q => ?_⟩
  dsimp only at e
  split at e
  · rename_i c' e'
    cases e
    exact .inl (h2 A S D F H xs as _ Q w hx e' q)
  · exact .inr (k2 A S D F H xs as c Q w hx e q)
theorem Ca.congr {g : Value} {f f' : List PyData → Option PyData} (h : Ca X cm g f) (k : ∀ as c, f' as = some c → f as = some c) : Ca X cm g f' := by
  obtain ⟨r, h1, h2⟩ := h
  exact ⟨r, h1, fun A S D F H xs as c Q w hx e q => h2 A S D F H xs as c Q w hx (k as c e) q⟩
def fLen1 : List PyData → Option PyData
  | [.list ds] => some (.int ds.length)
  | [.tuple ds] => some (.int ds.length)
  | _ => none
def fLen2 : List PyData → Option PyData
  | [.str x] => if x.length ≤ big then some (.int x.length) else none
  | _ => none
theorem c_len1 : Ca X cm (.builtin "len") fLen1 := ⟨_, call_len_seq, fun A S D F H xs as c Q w hx e q => by
  unfold fLen1 at e
  split at e
  · cases e
    obtain ⟨v, rfl, hv⟩ := dwA1 hx
    obtain ⟨a, ys, rfl, h1, h2⟩ := Dw.seq (K := X.K) w.sub (.inl hv)
    exact ⟨a, ys, rfl, h1, by rw [h2.length]; exact q D H _ w (.refl D) (.int _)⟩
  · cases e
    obtain ⟨v, rfl, hv⟩ := dwA1 hx
    obtain ⟨a, ys, rfl, h1, h2⟩ := Dw.seq (K := X.K) w.sub (.inr hv)
    exact ⟨a, ys, rfl, h1, by rw [h2.length]; exact q D H _ w (.refl D) (.int _)⟩
  · cases e⟩
theorem c_len2 : Ca X cm (.builtin "len") fLen2 := ⟨_, call_len_str, fun A S D F H xs as c Q w hx e q => by
  unfold fLen2 at e
  split at e
  · split at e
    · rename_i hl
      cases e
      obtain ⟨v, rfl, hv⟩ := dwA1 hx
      obtain rfl := hv.str
      exact ⟨_, rfl, Nat.le_of_lt (big_le hl), q D H _ w (.refl D) (.int _)⟩
    · cases e
  · cases e⟩
theorem c_len : Ca X cm (.builtin "len") fLen := (ca_or c_len1 c_len2).congr fun as c e => by
  unfold fLen at e
  split at e
  · exact e
  · exact e
  · exact e
  · cases e
theorem c_sum (hc : X.calm = true) : Ca X cm (.builtin "sum") fSum := ⟨_, cr_sum hc, fun A S D F H xs as c Q w hx e q => by
  unfold fSum at e
  split at e
  · split at e
    · rename_i ds ns ei
      cases e
      obtain ⟨v, rfl, hv⟩ := dwA1 hx
      obtain ⟨a, ys, rfl, h1, h2⟩ := hv.lst w.sub
      rw [asInts_eq ei] at h2
      rw [dvA_ints h2] at h1
      exact ⟨a, ns, rfl, .of h1, q D H _ w (.refl D) (.int _)⟩
    · cases e
  · cases e⟩
def fMin2 : List PyData → Option PyData
  | [.int i, .int j] => some (.int (if j < i then j else i))
  | _ => none
def fMinL : List PyData → Option PyData
  | [.list ds] => match asInts ds with
    | some (n :: ns) => some (.int (minI ns n))
    | _ => none
  | _ => none
theorem c_min2 (hc : X.calm = true) : Ca X cm (.builtin "min") fMin2 := ⟨_, call_min2 hc, fun A S D F H xs as c Q w hx e q => by
  unfold fMin2 at e
  split at e
  · cases e
    obtain ⟨v, u, rfl, hv, hu⟩ := dwA2 hx
    obtain rfl := hv.int
    obtain rfl := hu.int
    exact ⟨_, _, rfl, q D H _ w (.refl D) (.int _)⟩
  · cases e⟩
theorem c_minL (hc : X.calm = true) : Ca X cm (.builtin "min") fMinL := ⟨_, cr_min hc, fun A S D F H xs as c Q w hx e q => by
  unfold fMinL at e
  split at e
  · split at e
    · rename_i ds n ns ei
      cases e
      obtain ⟨v, rfl, hv⟩ := dwA1 hx
      obtain ⟨a, ys, rfl, h1, h2⟩ := hv.lst w.sub
      rw [asInts_eq ei] at h2
      rw [dvA_ints h2] at h1
      refine ⟨a, n :: ns, rfl, .of h1, by simp, fun m hm hle => ?_⟩
      have e : m = minI ns n := by
        obtain ⟨k1, k2⟩ := minI_le ns n
        have k3 := hle _ (minI_mem ns n)
        have k4 : minI ns n ≤ m := by
          rcases List.mem_cons.mp hm with rfl | hm
          · exact k1
          · exact k2 m hm
        omega
      rw [e]
      exact q D H _ w (.refl D) (.int _)
    · cases e
  · cases e⟩
theorem c_min (hc : X.calm = true) : Ca X cm (.builtin "min") fMin := (ca_or (c_min2 hc) (c_minL hc)).congr fun as c e => by
  unfold fMin at e
  split at e
  · exact e
  · exact e
  · cases e
def fMax2 : List PyData → Option PyData
  | [.int i, .int j] => some (.int (if j > i then j else i))
  | _ => none
def fMaxL : List PyData → Option PyData
  | [.list ds] => match asInts ds with
    | some (n :: ns) => some (.int (maxI ns n))
    | _ => none
  | _ => none
theorem c_max2 (hc : X.calm = true) : Ca X cm (.builtin "max") fMax2 := ⟨_, call_max2 hc, fun A S D F H xs as c Q w hx e q => by
  unfold fMax2 at e
  split at e
  · cases e
    obtain ⟨v, u, rfl, hv, hu⟩ := dwA2 hx
    obtain rfl := hv.int
    obtain rfl := hu.int
    exact ⟨_, _, rfl, q D H _ w (.refl D) (.int _)⟩
  · cases e⟩
theorem c_maxL (hc : X.calm = true) : Ca X cm (.builtin "max") fMaxL := ⟨_, cr_max hc, fun A S D F H xs as c Q w hx e q => by
  unfold fMaxL at e
  split at e
  · split at e
    · rename_i ds n ns ei
      cases e
      obtain ⟨v, rfl, hv⟩ := dwA1 hx
      obtain ⟨a, ys, rfl, h1, h2⟩ := hv.lst w.sub
      rw [asInts_eq ei] at h2
      rw [dvA_ints h2] at h1
      refine ⟨a, n :: ns, rfl, .of h1, by simp, fun m hm hle => ?_⟩
      have e : m = maxI ns n := by
        obtain ⟨k1, k2⟩ := maxI_le ns n
        have k3 := hle _ (maxI_mem ns n)
        have k4 : m ≤ maxI ns n := by
          rcases List.mem_cons.mp hm with rfl | hm
          · exact k1
          · exact k2 m hm
        omega
      rw [e]
      exact q D H _ w (.refl D) (.int _)
    · cases e
  · cases e⟩
theorem c_max (hc : X.calm = true) : Ca X cm (.builtin "max") fMax := (ca_or (c_max2 hc) (c_maxL hc)).congr fun as c e => by
  unfold fMax at e
  split at e
  · exact e
  · exact e
  · cases e
theorem c_all (hc : X.calm = true) : Ca X cm (.builtin "all") fAll := ⟨_, cr_all hc, fun A S D F H xs as c Q w hx e q => by
  unfold fAll at e
  split at e
  · split at e
    · rename_i ds ns ei
      cases e
      obtain ⟨v, rfl, hv⟩ := dwA1 hx
      obtain ⟨a, ys, rfl, h1, h2⟩ := hv.lst w.sub
      rw [asBools_eq ei] at h2
      rw [dvA_bools h2] at h1
      exact ⟨a, ns, rfl, .of h1, q D H _ w (.refl D) (.bl _)⟩
    · cases e
  · cases e⟩
theorem c_any (hc : X.calm = true) : Ca X cm (.builtin "any") fAny := ⟨_, cr_any hc, fun A S D F H xs as c Q w hx e q => by
  unfold fAny at e
  split at e
  · split at e
    · rename_i ds ns ei
      cases e
      obtain ⟨v, rfl, hv⟩ := dwA1 hx
      obtain ⟨a, ys, rfl, h1, h2⟩ := hv.lst w.sub
      rw [asBools_eq ei] at h2
      rw [dvA_bools h2] at h1
      exact ⟨a, ns, rfl, .of h1, q D H _ w (.refl D) (.bl _)⟩
    · cases e
  · cases e⟩
theorem c_abs : Ca X cm (.builtin "abs") fAbs := ⟨_, call_abs, fun A S D F H xs as c Q w hx e q => by
  unfold fAbs at e
  split at e
  · cases e
    obtain ⟨v, rfl, hv⟩ := dwA1 hx
    obtain rfl := hv.int
    exact ⟨_, rfl, q D H _ w (.refl D) (.int _)⟩
  · cases e⟩
theorem c_int : Ca X cm (.type "int") fInt := ⟨_, call_int1, fun A S D F H xs as c Q w hx e q => by
  unfold fInt at e
  split at e
  · cases e
    obtain ⟨v, rfl, hv⟩ := dwA1 hx
    obtain rfl := hv.int
    exact .inl ⟨_, rfl, q D H _ w (.refl D) (.int _)⟩
  · cases e
    obtain ⟨v, rfl, hv⟩ := dwA1 hx
    obtain rfl := hv.bl
    exact .inr ⟨_, rfl, q D H _ w (.refl D) (.int _)⟩
  · cases e⟩
theorem c_tuple : Ca X cm (.type "tuple") fTuple := ⟨_, call_tuple_of, fun A S D F H xs as c Q w hx e q => by
  unfold fTuple at e
  split at e
  · cases e
    obtain ⟨v, rfl, hv⟩ := dwA1 hx
    obtain ⟨a, ys, rfl, h1, h2⟩ := hv.lst w.sub
    refine ⟨a, ys, rfl, .inl ⟨.of h1, fun l nl => ?_⟩⟩
    obtain ⟨w', s'⟩ := w.new nl (.tup ys)
    exact q _ _ _ w' s' (.tup upd_same (h2.mono s'))
  · cases e
    obtain ⟨v, rfl, hv⟩ := dwA1 hx
    obtain ⟨a, ys, rfl, h1, h2⟩ := hv.tup
    exact ⟨a, ys, rfl, .inr ⟨.of (w.sub _ _ h1), q D H _ w (.refl D) (.tup h1 h2)⟩⟩
  · cases e⟩
theorem c_list : Ca X cm (.type "list") fList := ⟨_, call_list_of, fun A S D F H xs as c Q w hx e q => by
  unfold fList at e
  split at e
  · cases e
    obtain ⟨v, rfl, hv⟩ := dwA1 hx
    obtain ⟨a, ys, rfl, h1, h2⟩ := Dw.seq (K := X.K) w.sub (.inl hv)
    refine ⟨a, ys, rfl, h1, fun l nl => ?_⟩
    obtain ⟨w', s'⟩ := w.new nl (.lst ys)
    exact q _ _ _ w' s' (.lst upd_same (h2.mono s'))
  · cases e
    obtain ⟨v, rfl, hv⟩ := dwA1 hx
    obtain ⟨a, ys, rfl, h1, h2⟩ := Dw.seq (K := X.K) w.sub (.inr hv)
    refine ⟨a, ys, rfl, h1, fun l nl => ?_⟩
    obtain ⟨w', s'⟩ := w.new nl (.lst ys)
    exact q _ _ _ w' s' (.lst upd_same (h2.mono s'))
  · cases e⟩
end
end Sm

set_option maxHeartbeats 4000000
namespace Sm
open PySem PySem.Spec PyProof.Rows L2 Lf

mutual
theorem plain_lay : ∀ {d : PyData}, d.canLay0 = true → plainD d = true
  | .none, _ => rfl
  | .bool _, _ => rfl
  | .int _, _ => rfl
  | .str _, _ => rfl
  | .list ds, h => by
    rw [plainD]
    exact plains_lay (by simpa only [PyData.canLay0] using h)
  | .tuple ds, h => by
    rw [plainD]
    exact plains_lay (by simpa only [PyData.canLay0] using h)
  | .dict _, h => by simp [PyData.canLay0] at h
theorem plains_lay : ∀ {ds : List PyData}, PyData.canLayAll0 ds = true → plainDs ds = true
  | [], _ => rfl
  | d :: ds, h => by
    simp only [PyData.canLayAll0, Bool.and_eq_true] at h
    rw [plainDs, plain_lay h.1, plains_lay h.2]
    rfl
end
theorem shaped_plain {d : PyData} (h : SeqAt.shaped d = true) : plainD d = true := by
  have h' : (d.canLay0 && decide (d.depth ≤ 64)) = true := h
  rw [Bool.and_eq_true] at h'
  exact plain_lay h'.1
theorem Dw.dp {cm : CM} {K : PySem.W.Frag} {D H : Hp} {v : V} {d : PyData} (s : Same D H) (h : Dw cm D H v d) (p : plainD d = true) : Dp K H v d := ((h.inH s).dd p).dp

/-! ## comparing -/
def eqP : PyData → PyData → Option Bool
  | .int i, .int j => some (decide (i = j))
  | .str i, .str j => some (decide (i = j))
  | .bool i, .bool j => some (decide (i = j))
  | .none, .none => some true
  | a, b => if SeqAt.shaped a && SeqAt.shaped b then some (PyData.eqv a b) else none
def eqF (a b : PyData) : Option PyData := match eqP a b with
  | some c => some (.bool c)
  | none => none
def neF (a b : PyData) : Option PyData := match eqP a b with
  | some c => some (.bool !c)
  | none => none
section
variable {X : Cx} {cm : CM}
theorem eqP_cases {cm : CM} {D H : Hp} {x y : V} {a b : PyData} {c : Bool} {K : PySem.W.Frag} (s : Same D H) (hx : Dw cm D H x a) (hy : Dw cm D H y b) (e : eqP a b = some c) : (scal x y = true ∧ c = decide (x = y)) ∨ (Dp K H x a ∧ Dp K H y b ∧ SeqAt.shaped a = true ∧ SeqAt.shaped b = true ∧ c = PyData.eqv a b) := by
  unfold eqP at e
  split at e
  · cases e
    obtain rfl := hx.int
    obtain rfl := hy.int
    exact .inl ⟨rfl, by simp⟩
  · cases e
    obtain rfl := hx.str
    obtain rfl := hy.str
    exact .inl ⟨rfl, by simp⟩
  · cases e
    obtain rfl := hx.bl
    obtain rfl := hy.bl
    exact .inl ⟨rfl, by simp⟩
  · cases e
    obtain rfl := hx.non
    obtain rfl := hy.non
    exact .inl ⟨rfl, by simp⟩
  · split at e
    · rename_i h
      rw [Bool.and_eq_true] at h
      cases e
      exact .inr ⟨hx.dp s (shaped_plain h.1), hy.dp s (shaped_plain h.2), h.1, h.2, rfl⟩
    · cases e
theorem o_eq {k : Nat} (hr : Room k X.A) : Op2 X cm (compareOp .Eq) eqF := ⟨_, opR_or op_eq (op_eqD hr.units), fun A S D F H x y a b c Q w hx hy e q => by
  unfold eqF at e
  split at e
  · rename_i t e2
    cases e
    rcases eqP_cases (K := X.K) w.sub hx hy e2 with ⟨h1, rfl⟩ | ⟨h1, h2, h3, h4, rfl⟩
    · exact .inl ⟨h1, q D H _ w (.refl D) (.bl _)⟩
    · exact .inr ⟨_, _, h1, h2, h3, h4, q D H _ w (.refl D) (.bl _)⟩
  · cases e⟩
theorem o_ne {k : Nat} (hr : Room k X.A) : Op2 X cm (compareOp .NotEq) neF := ⟨_, opR_or op_ne (op_neD hr.units), fun A S D F H x y a b c Q w hx hy e q => by
  unfold neF at e
  split at e
  · rename_i t e2
    cases e
    rcases eqP_cases (K := X.K) w.sub hx hy e2 with ⟨h1, rfl⟩ | ⟨h1, h2, h3, h4, rfl⟩
    · exact .inl ⟨h1, q D H _ w (.refl D) (.bl _)⟩
    · exact .inr ⟨_, _, h1, h2, h3, h4, q D H _ w (.refl D) (.bl _)⟩
  · cases e⟩
def isNone : PyData → Bool
  | .none => true
  | _ => false
def isF : PyData → PyData → Option PyData
  | a, .none => some (.bool (isNone a))
  | _, _ => none
def isnF : PyData → PyData → Option PyData
  | a, .none => some (.bool !(isNone a))
  | _, _ => none
theorem isNone_dec {D H : Hp} {x : V} {a : PyData} (h : Dw cm D H x a) : decide (x = .non) = isNone a := by
  cases h with
  | d h => cases h <;> rfl
  | l h1 h2 => rfl
theorem o_is : Op2 X cm (compareOp .Is) isF := ⟨_, op_isN, fun A S D F H x y a b c Q w hx hy e q => by
  unfold isF at e
  split at e
  · cases e
    refine ⟨hy.non, ?_⟩
    rw [isNone_dec hx]
    exact q D H _ w (.refl D) (.bl _)
  · cases e⟩
theorem o_isn : Op2 X cm (compareOp .IsNot) isnF := ⟨_, op_notN, fun A S D F H x y a b c Q w hx hy e q => by
  unfold isnF at e
  split at e
  · cases e
    refine ⟨hy.non, ?_⟩
    rw [isNone_dec hx]
    exact q D H _ w (.refl D) (.bl _)
  · cases e⟩
def ltX (a b : PyData) : Option PyData := if PySem.W.alike a b && !isNone a && plainD a && plainD b && decide (a.depth ≤ 64) then some (.bool (PySem.W.dataLt a b)) else none
def ltF : PyData → PyData → Option PyData := orF (intOp fun i j => some (.bool (decide (i < j)))) ltX
def leF : PyData → PyData → Option PyData := intOp fun i j => some (.bool (decide (i ≤ j)))
def gtF : PyData → PyData → Option PyData := intOp fun i j => some (.bool (decide (j < i)))
def geF : PyData → PyData → Option PyData := intOp fun i j => some (.bool (decide (j ≤ i)))
theorem o_lt {k : Nat} (hr : Room k X.A) : Op2 X cm (compareOp .Lt) ltF := ⟨_, opR_or op_lt (op_ltD hr.units), (opF_rI0 fun D i j => .bl _).or fun A S D F H x y a b c Q w hx hy e q => by
  unfold ltX at e
  split at e
  · rename_i h
    simp only [Bool.and_eq_true, decide_eq_true_eq] at h
    obtain ⟨⟨⟨⟨h1, h2⟩, h3⟩, h4⟩, h5⟩ := h
    cases e
    exact ⟨a, b, hx.dp w.sub h3, hy.dp w.sub h4, h1, (fun z => by rw [z] at h2; cases h2), h5, q D H _ w (.refl D) (.bl _)⟩
  · cases e⟩
theorem o_le : Op2 X cm (compareOp .LtE) leF := ⟨_, op_le, opF_rI0 fun D i j => .bl _⟩
theorem o_gt : Op2 X cm (compareOp .Gt) gtF := ⟨_, op_gt, opF_rI0 fun D i j => .bl _⟩
theorem o_ge : Op2 X cm (compareOp .GtE) geF := ⟨_, op_ge, opF_rI0 fun D i j => .bl _⟩
/-! ## in -/
def rInTD (K : PySem.W.Frag) : R2 := fun x y H Q => ∃ d ds, Dp K H x d ∧ Dp K H y (.tuple ds) ∧ SeqAt.shaped d = true ∧ SeqAt.shaped (.tuple ds) = true ∧ Q (.bl (ds.any fun z => PyData.eqv z d)) H
theorem op_inTD (hu : X.A.units + 65 < cLine) : OpR X (compareOp .In) (rInTD X.K) := by
  intro pins s σ H x y v u Q I rx ry h
  obtain ⟨d, ds, hd, he, sd, se, q⟩ := h
  obtain ⟨as, r1⟩ := Dp.reads I d x v hd rx
  obtain ⟨bs, r2⟩ := Dp.reads I (.tuple ds) y u he ry
  exact SeqAt.in_tuple_reads r2 r1 (SeqAt.canLay_of_shaped se) (SeqAt.canLay_of_shaped sd) (room_in_shaped sd hu) ⟨.bl _, H, I, rfl, q⟩
def inL : PyData → PyData → Option Bool
  | d, .list ds => if SeqAt.shaped d && SeqAt.shaped (.list ds) then some (ds.any fun z => PyData.eqv z d) else none
  | _, _ => none
def inT : PyData → PyData → Option Bool
  | d, .tuple ds => if SeqAt.shaped d && SeqAt.shaped (.tuple ds) then some (ds.any fun z => PyData.eqv z d) else none
  | _, _ => none
def bF (f : PyData → PyData → Option Bool) (a b : PyData) : Option PyData := match f a b with
  | some c => some (.bool c)
  | none => none
def bnF (f : PyData → PyData → Option Bool) (a b : PyData) : Option PyData := match f a b with
  | some c => some (.bool !c)
  | none => none
def inF : PyData → PyData → Option PyData := orF (bF inL) (bF inT)
def ninF : PyData → PyData → Option PyData := orF (bnF inL) (bnF inT)
theorem units65 {k : Nat} {A : Around} (hr : Room k A) : A.units + 65 < cLine := by have := hr.un; omega
theorem o_in {k : Nat} (hr : Room k X.A) : Op2 X cm (compareOp .In) inF := ⟨_, opR_or (op_inD (units65 hr)) (op_inTD (units65 hr)), OpF.or (fun A S D F H x y a b c Q w hx hy e q => by
    unfold bF inL at e
    split at e
    · rename_i t e2
      cases e
      split at e2
      · split at e2
        · rename_i ds h
          rw [Bool.and_eq_true] at h
          cases e2
          exact ⟨_, _, hx.dp w.sub (shaped_plain h.1), hy.dp w.sub (shaped_plain h.2), h.1, h.2, q D H _ w (.refl D) (.bl _)⟩
        · cases e2
      · cases e2
    · cases e) (fun A S D F H x y a b c Q w hx hy e q => by
    unfold bF inT at e
    split at e
    · rename_i t e2
      cases e
      split at e2
      · split at e2
        · rename_i ds h
          rw [Bool.and_eq_true] at h
          cases e2
          exact ⟨_, _, hx.dp w.sub (shaped_plain h.1), hy.dp w.sub (shaped_plain h.2), h.1, h.2, q D H _ w (.refl D) (.bl _)⟩
        · cases e2
      · cases e2
    · cases e)⟩
theorem o_nin {k : Nat} (hr : Room k X.A) : Op2 X cm (compareOp .NotIn) ninF := ⟨_, opR_or (op_notInD (units65 hr)) (op_notInTD (units65 hr)), OpF.or (fun A S D F H x y a b c Q w hx hy e q => by
    unfold bnF inL at e
    split at e
    · rename_i t e2
      cases e
      split at e2
      · split at e2
        · rename_i ds h
          rw [Bool.and_eq_true] at h
          cases e2
          exact ⟨_, _, hx.dp w.sub (shaped_plain h.1), hy.dp w.sub (shaped_plain h.2), h.1, h.2, q D H _ w (.refl D) (.bl _)⟩
        · cases e2
      · cases e2
    · cases e) (fun A S D F H x y a b c Q w hx hy e q => by
    unfold bnF inT at e
    split at e
    · rename_i t e2
      cases e
      split at e2
      · split at e2
        · rename_i ds h
          rw [Bool.and_eq_true] at h
          cases e2
          exact ⟨_, _, hx.dp w.sub (shaped_plain h.1), hy.dp w.sub (shaped_plain h.2), h.1, h.2, q D H _ w (.refl D) (.bl _)⟩
        · cases e2
      · cases e2
    · cases e)⟩
/-! ## by place -/
def ixLT : PyData → PyData → Option PyData
  | .list ds, .int k => atI ds k
  | .tuple ds, .int k => atI ds k
  | _, _ => none
theorem atI_dv {D : Hp} {xs : List V} {ds : List PyData} {k : Int} {c : PyData} (h : DvA cm D xs ds) (e : atI ds k = some c) : ∃ v, atI xs k = some v ∧ Dv cm D v c := by
  unfold atI at e ⊢
  rw [h.length]
  cases e2 : ixN ds.length k with
  | none => rw [e2] at e; cases e
  | some j =>
    rw [e2] at e
    exact h.get' e
theorem i_seq : Ix2 X cm ixLT := ⟨_, ix_list.or ix_tup, fun A S D F H x y a b c Q w hx hy e q => by
  unfold ixLT at e
  split at e
  · obtain rfl := hy.int
    obtain ⟨p, xs, rfl, h1, h2⟩ := hx.lst w.sub
    obtain ⟨v, e2, hv⟩ := atI_dv h2 e
    exact .inl ⟨p, xs, _, v, rfl, rfl, .of h1, e2, q D H _ w (.refl D) hv⟩
  · obtain rfl := hy.int
    obtain ⟨p, xs, rfl, h1, h2⟩ := hx.tup
    obtain ⟨v, e2, hv⟩ := atI_dv h2 e
    exact .inr ⟨p, xs, _, v, rfl, rfl, .of (w.sub _ _ h1), e2, q D H _ w (.refl D) hv⟩
  · cases e⟩
end
/-! ## parts of lists and tuples -/
def tO (cm : CM) (W : WX) (f : Env → M (Option Int)) : TO := fun σ H Q => ∃ p : Pk, p.Ok cm σ H ∧ p.fin cm (f p.ρ p.S) (fun b _ D' H' => Q b H') (erW cm W σ)
abbrev GO (X : Cx) (cm : CM) (W : WX) (e : Option Expr) (f : Env → M (Option Int)) : Prop := PO X e (tO cm W f)
theorem po_imp {X : Cx} {e : Option Expr} {t t' : TO} (h : PO X e t) (k : ∀ σ H Q, t' σ H Q → t σ H Q) : PO X e t' := ⟨fun pins s σ H Q I q => h.run pins s σ H Q I (k _ _ _ q)⟩
def oNone : Env → M (Option Int) := fun _ S => .ok none S
def toI : Vl → M (Option Int)
  | .d (.int i) => fun S => .ok (some i) S
  | _ => fun _ => .no
def oSome (f : Ex) : Env → M (Option Int) := fun ρ S => (f ρ S).bind toI
def cutG {α : Type} (xs : List α) (lo hi : Option Int) : List α := (xs.drop (HT.sIx xs.length 0 lo)).take (HT.sIx xs.length xs.length hi - HT.sIx xs.length 0 lo)
def cutF (lo hi : Option Int) : PyData → Option PyData
  | .list ds => some (.list (cutG ds lo hi))
  | .tuple ds => some (.tuple (cutG ds lo hi))
  | _ => none
def eSl (f : Ex) (lo hi : Env → M (Option Int)) : Ex := fun ρ S => (f ρ S).bind fun x S1 => (lo ρ S1).bind fun l S2 => (hi ρ S2).bind fun h => lift1 (cutF l h) x
theorem SlR.or {X : Cx} {r r' : V → Option Int → Option Int → Hp → VK → Prop} (h : SlR X r) (h' : SlR X r') : SlR X (fun x l u H Q => r x l u H Q ∨ r' x l u H Q) :=
  fun pins s σ H x v vl vu lo hi sl Q I rx hs pl pu q => q.elim (h pins s σ H x v vl vu lo hi sl Q I rx hs pl pu) (h' pins s σ H x v vl vu lo hi sl Q I rx hs pl pu)
section
variable {X : Cx} {cm : CM} {W : WX} {e : Expr} {f : Ex} {pos p2 : Pos}
theorem po_non : GO X cm W none oNone := po_imp po_none fun σ H Q ⟨p, ok, h⟩ => h p.D H ok.wd (.refl _)
theorem po_som (h : GE X cm W e f) : GO X cm W (some e) (oSome f) := po_imp (po_some h) fun σ H Q ⟨p, ok, h⟩ => ⟨p, ok, (fin.bind h).imp (fun x S1 D1 H1 w s k v r => by
  unfold toI at k
  split at k
  · cases r
    exact ⟨_, rfl, k D1 H1 w (.refl _)⟩
  · exact absurd k id) fun _ _ _ _ _ _ z => z⟩
theorem cutG_dv {cm : CM} {D : Hp} {xs : List V} {ds : List PyData} {lo hi : Option Int} (h : DvA cm D xs ds) : DvA cm D (cutV xs lo hi) (cutG ds lo hi) := by
  unfold cutV cutG
  rw [h.length]
  exact (h.drop _).take _
theorem g_slice {lo hi : Option Expr} {fl fh : Env → M (Option Int)} (he : GE X cm W e f) (hl : GO X cm W lo fl) (hh : GO X cm W hi fh) : GE X cm W (.Subscript e (.Slice lo hi none p2) pos) (eSl f fl fh) :=
  pe_imp (pe_slice (SlR.or sl_list sl_tupA) he hl hh) fun σ H Q ⟨p, ok, h⟩ => ⟨p, ok, (fin.bind h).imp (fun x S1 D1 H1 w s k v r => ⟨⟨p.A, S1, D1, p.Ow, p.Fr, p.ρ⟩, ok.on w s, (fin.bind k).imp (fun l S2 D2 H2 w2 s2 k2 =>
    ⟨⟨p.A, S2, D2, p.Ow, p.Fr, p.ρ⟩, ok.on w2 (s.trans s2), (fin.bind k2).imp (fun u S3 D3 H3 w3 s3 k3 => by
      obtain ⟨a, c, h1, h2, h3⟩ := lift1_inv k3
      have hx := view_dw w3 h1 (r.mono (s2.trans s3))
      unfold cutF at h2
      split at h2
      · cases h2
        obtain ⟨q, xs, rfl, h4, h5⟩ := hx.lst w3.sub
        refine .inl ⟨q, xs, rfl, .of h4, fun m nm => ?_⟩
        obtain ⟨w', s'⟩ := w3.new nm (.lst (cutV xs l u))
        exact h3 _ _ w' s' _ (.lst upd_same ((cutG_dv h5).mono s'))
      · cases h2
        obtain ⟨q, xs, rfl, h4, h5⟩ := hx.tup
        refine .inr ⟨q, xs, rfl, .of (w3.sub _ _ h4), fun hw => ?_, fun _ m nm => ?_⟩
        · have e1 : cutG ‹List PyData› l u = ‹List PyData› := by
            unfold cutG
            rw [← h5.length, hw.1, hw.2, List.drop_zero, Nat.sub_zero, h5.length, List.take_length]
          rw [e1] at h3
          exact h3 _ _ w3 (.refl _) _ (.tup h4 h5)
        · obtain ⟨w', s'⟩ := w3.new nm (.tup (cutV xs l u))
          exact h3 _ _ w' s' _ (.tup upd_same ((cutG_dv h5).mono s'))
      · cases h2) fun _ _ _ _ _ _ z => z⟩) fun _ _ _ _ _ _ z => z⟩) fun _ _ _ _ _ _ z => z⟩
end
end Sm

set_option maxHeartbeats 4000000
namespace Sm
open PySem PySem.Spec PyProof.Rows L2 Lf

/-! ## -x -/
def negF : PyData → Option PyData
  | .int i => some (.int (-i))
  | _ => none
section
variable {X : Cx} {cm : CM} {W : WX} {a b e : Expr} {fa fb f : Ex} {pos : Pos}
theorem g_neg (ha : GE X cm W a fa) : GE X cm W (.UnaryOp .USub a pos) (e1 (lift1 negF) fa) :=
  pe_imp (pe_un un_neg ha) fun σ H Q ⟨p, ok, h⟩ => ⟨p, ok, (fin.bind h).imp (fun x S1 D1 H1 w s k v r => by
    obtain ⟨a, c, h1, h2, h3⟩ := lift1_inv k
    have hx := view_dw w h1 r
    unfold negF at h2
    split at h2
    · cases h2
      obtain rfl := hx.int
      exact ⟨_, rfl, h3 D1 H1 w (.refl _) _ (.int _)⟩
    · cases h2) fun _ _ _ _ _ _ z => z⟩
/-! ## a, b = x, y -/
def sPar (i j : Nat) (fa fb : Ex) : Sx := fun ρ S => sE (fa ρ S) ρ fun x S1 => sE (fb ρ S1) ρ fun y S2 => if notO x && notO y then some (.nx, (ρ.set i (some x)).set j (some y), S2) else none
theorem gs_par {i j : Nat} {x y : Str} {px py pt : Pos} {kt k2 pt2} (hc : X.calm = true) (hN : X.N.Nodup) (hi : X.N[i]? = some x) (hj : X.N[j]? = some y) (hij : i ≠ j)
    (hx : X.env.scope.names.lookup x = some .local) (hy : X.env.scope.names.lookup y = some .local) (ha : GE X cm W a fa) (hb : GE X cm W b fb) (hsa : starEach [a, b] X.env = (false, eval a X.env) :: starEach [b] X.env) (hsb : starEach [b] X.env = (false, eval b X.env) :: starEach [] X.env)
    (hw : swappedStores [.Tuple [.Name x px, .Name y py] kt pt] (.Tuple [a, b] k2 pt2) X.env = pure (some [x, y]))
    (hs : swapsWithSole [.Tuple [.Name x px, .Name y py] kt pt] (.Tuple [a, b] k2 pt2) pos.line X.env = pure false := by rfl) :
    GS X cm W (.Assign [.Tuple [.Name x px, .Name y py] kt pt] (.Tuple [a, b] k2 pt2) pos) (sPar i j fa fb) :=
  ps_imp (ps_par hc hN hi hj hij hx hy (pa_cons ha (pa_cons hb pa_nil hsb) hsa) hw hs) fun D σ H ⟨p, ok, h⟩ => by
    refine ⟨p, ok, finE (W := W) (okQ := fun x S1 D1 H1 => ∀ v, VR cm p.A D1 p.Ow x v → tCons (tE cm W fb) tNil σ H1 fun vs H2 => ∃ v' w', v :: vs = [v', w'] ∧ D.nx ((σ.set i (some v')).set j (some w')) H2) ok h (fun x S1 D1 H1 _ ok1 s k v r => ?_) fun e S1 D1 H1 z => z⟩
    refine ⟨⟨p.A, S1, D1, p.Ow, p.Fr, p.ρ⟩, ok1, finE (W := W) (okQ := fun y S2 D2 H2 => ∀ u, VR cm p.A D2 p.Ow y u → D.nx ((σ.set i (some v)).set j (some u)) H2) ok1 k (fun y S2 D2 H2 _ ok2 s2 k2 u r2 => ?_) (fun e S1 D1 H1 z => z) |>.imp (fun y S2 D2 H2 w2 s2 k2 u r2 => ⟨v, u, rfl, k2 u r2⟩) fun _ _ _ _ _ _ z => z⟩
    split at k2
    · rename_i hn
      rw [Bool.and_eq_true] at hn
      have n1 : ∀ ds, x ≠ .o ds := fun ds z => by subst z; exact absurd hn.1 Bool.false_ne_true
      have n2 : ∀ ds, y ≠ .o ds := fun ds z => by subst z; exact absurd hn.2 Bool.false_ne_true
      exact k2 D2 p.Ow _ H2 ⟨ok2.wd, (ok2.er.set (r.mono s2) n1).set r2 n2⟩ (.refl _)
    · exact absurd k2 id
/-! ## l[::-1] -/
def revF : PyData → Option PyData
  | .list ds => some (.list ds.reverse)
  | _ => none
theorem g_rev {k : Nat} {p1 p2 p3 : Pos} (he : GE X cm W e f) : GE X cm W (.Subscript e (.Slice none none (some (.UnaryOp .USub (.Constant (.int 1) k p1) p2)) p3) pos) (e1 (lift1 revF) f) :=
  pe_imp (pe_revL he) fun σ H Q ⟨p, ok, h⟩ => ⟨p, ok, (fin.bind h).imp (fun x S1 D1 H1 w s k v r => by
    obtain ⟨a, c, h1, h2, h3⟩ := lift1_inv k
    have hx := view_dw w h1 r
    unfold revF at h2
    split at h2
    · cases h2
      obtain ⟨q, xs, rfl, h4, h5⟩ := hx.lst w.sub
      refine ⟨q, xs, rfl, .of h4, fun m nm => ?_⟩
      obtain ⟨w', s'⟩ := w.new nm (.lst xs.reverse)
      exact h3 _ _ w' s' _ (.lst upd_same (h5.rev.mono s'))
    · cases h2) fun _ _ _ _ _ _ z => z⟩
/-! ## *x in a list of expressions -/
def asStar (a : Ex) (r : Exs) : Exs := fun ρ S => (a ρ S).bind fun x S1 => match x with
  | .d (.list ds) => (r ρ S1).bind fun xs S2 => .ok (ds.map Vl.d ++ xs) S2
  | .d (.tuple ds) => (r ρ S1).bind fun xs S2 => .ok (ds.map Vl.d ++ xs) S2
  | _ => .no
theorem vrs_map {A : List Addr} {D : Hp} {Ow : List (Addr × HO)} : ∀ {xs : List V} {ds : List PyData}, DvA cm D xs ds → VRs cm A D Ow (ds.map Vl.d) xs
  | _, [], h => by cases h; exact .nil
  | _, d :: ds, h => by
    cases h with
    | cons h1 h2 => exact .cons h1 (vrs_map h2)
theorem VRs.append {A : List Addr} {D : Hp} {Ow : List (Addr × HO)} : ∀ {xs ys : List Vl} {vs us : List V}, VRs cm A D Ow xs vs → VRs cm A D Ow ys us → VRs cm A D Ow (xs ++ ys) (vs ++ us)
  | _, _, _, _, .nil, k => k
  | _, _, _, _, .cons h t, k => .cons h (VRs.append t k)
theorem ga_star {es : List Expr} {fs : Exs} {p : Pos} (he : GE X cm W e f) (hr : GA X cm W es fs) (hs : starEach (.Starred e p :: es) X.env = (true, eval e X.env) :: starEach es X.env := by rfl) : GA X cm W (.Starred e p :: es) (asStar f fs) :=
  pa_imp (StX.pa_star he hr hs) fun σ H Q ⟨p, ok, h⟩ => ⟨p, ok, (fin.bind h).imp (fun x S1 D1 H1 w s k v r => by
    split at k
    · cases r with
      | @lst q xs ds h1 h2 => exact ⟨q, xs, rfl, .inr (.of (w.sub _ _ h1)), ⟨p.A, S1, D1, p.Ow, p.Fr, p.ρ⟩, ok.on w s, (fin.bind k).imp (fun ys S2 D2 H2 w2 s2 k2 us r2 => k2 D2 H2 w2 (.refl _) _ ((vrs_map (h2.mono s2)).append r2)) fun _ _ _ _ _ _ z => z⟩
    · cases r with
      | @tup q xs ds h1 h2 => exact ⟨q, xs, rfl, .inl (.of (w.sub _ _ h1)), ⟨p.A, S1, D1, p.Ow, p.Fr, p.ρ⟩, ok.on w s, (fin.bind k).imp (fun ys S2 D2 H2 w2 s2 k2 us r2 => k2 D2 H2 w2 (.refl _) _ ((vrs_map (h2.mono s2)).append r2)) fun _ _ _ _ _ _ z => z⟩
    · exact absurd k id) fun _ _ _ _ _ _ z => z⟩
end

/-! ## sorted(set(x)) of ints -/
def insU (x : Int) : List Int → List Int
  | [] => [x]
  | y :: ys => if x < y then x :: y :: ys else if x = y then y :: ys else y :: insU x ys
def ascI (ns : List Int) : List Int := ns.foldr insU []
theorem mem_insU {x z : Int} : ∀ {ys : List Int}, z ∈ insU x ys ↔ z = x ∨ z ∈ ys
  | [] => by simp [insU]
  | y :: ys => by
    unfold insU
    split
    · simp
    · split
      · rename_i h
        subst h
        simp
      · rw [List.mem_cons, mem_insU, List.mem_cons]
        exact ⟨fun h => h.elim (fun h => .inr (.inl h)) fun h => h.elim .inl fun h => .inr (.inr h), fun h => h.elim (fun h => .inr (.inl h)) fun h => h.elim .inl fun h => .inr (.inr h)⟩
theorem insU_up {x : Int} : ∀ {ys : List Int}, ys.Pairwise (· < ·) → (insU x ys).Pairwise (· < ·)
  | [], _ => by simp [insU]
  | y :: ys, h => by
    obtain ⟨h1, h2⟩ := List.pairwise_cons.mp h
    unfold insU
    split
    · rename_i c
      refine List.pairwise_cons.mpr ⟨fun z hz => ?_, h⟩
      rcases List.mem_cons.mp hz with rfl | hz
      · exact c
      · exact Int.lt_trans c (h1 z hz)
    · split
      · exact h
      · refine List.pairwise_cons.mpr ⟨fun z hz => ?_, insU_up h2⟩
        rcases mem_insU.mp hz with rfl | hz
        · omega
        · exact h1 z hz
theorem mem_ascI {z : Int} : ∀ {ns : List Int}, z ∈ ascI ns ↔ z ∈ ns
  | [] => Iff.rfl
  | n :: ns => by
    show z ∈ insU n (ascI ns) ↔ _
    rw [mem_insU, mem_ascI, List.mem_cons]
theorem ascI_up : ∀ (ns : List Int), (ascI ns).Pairwise (· < ·)
  | [] => List.Pairwise.nil
  | n :: ns => insU_up (ascI_up ns)
/-- ascending lists of the same members are the same -/
theorem up_unique : ∀ {xs ys : List Int}, xs.Pairwise (· < ·) → ys.Pairwise (· < ·) → (∀ z, z ∈ xs ↔ z ∈ ys) → xs = ys
  | [], [], _, _, _ => rfl
  | [], y :: ys, _, _, h => by have := (h y).mpr List.mem_cons_self; cases this
  | x :: xs, [], _, _, h => by have := (h x).mp List.mem_cons_self; cases this
  | x :: xs, y :: ys, h1, h2, h => by
    obtain ⟨a1, a2⟩ := List.pairwise_cons.mp h1
    obtain ⟨b1, b2⟩ := List.pairwise_cons.mp h2
    have e : x = y := by
      rcases List.mem_cons.mp ((h x).mp List.mem_cons_self) with e | e
      · exact e
      · rcases List.mem_cons.mp ((h y).mpr List.mem_cons_self) with e' | e'
        · exact e'.symm
        · have := a1 y e'
          have := b1 x e
          omega
    subst e
    rw [up_unique a2 b2 fun z => ⟨fun hz => ?_, fun hz => ?_⟩]
    · rcases List.mem_cons.mp ((h z).mp (List.mem_cons_of_mem _ hz)) with e | e
      · have := a1 z hz
        omega
      · exact e
    · rcases List.mem_cons.mp ((h z).mpr (List.mem_cons_of_mem _ hz)) with e | e
      · have := b1 z hz
        omega
      · exact e
def ssL (ds : List PyData) : Option (List PyData) := if ds.length < 64 then match asInts ds with
  | some ns => some ((ascI ns).map PyData.int)
  | none => none
  else none
/-- sorted(set(x)) -/
def ssF : PyData → Option PyData
  | .list ds => match ssL ds with
    | some es => some (.list es)
    | none => none
  | .tuple ds => match ssL ds with
    | some es => some (.list es)
    | none => none
  | _ => none
theorem ssF_inv {a c : PyData} (e : ssF a = some c) : ∃ ns, (a = .list (ns.map PyData.int) ∨ a = .tuple (ns.map PyData.int)) ∧ ns.length < 64 ∧ c = .list ((ascI ns).map PyData.int) := by
  have key : ∀ {ds es : List PyData}, ssL ds = some es → ∃ ns : List Int, ds = ns.map PyData.int ∧ ns.length < 64 ∧ es = (ascI ns).map PyData.int := fun {ds es} h => by
    unfold ssL at h
    split at h
    · rename_i hl
      split at h
      · rename_i ns e2
        cases h
        have := asInts_eq e2
        exact ⟨ns, this, by rw [this, List.length_map] at hl; exact hl, rfl⟩
      · cases h
    · cases h
  unfold ssF at e
  split at e
  · split at e
    · rename_i h
      cases e
      obtain ⟨ns, rfl, h1, rfl⟩ := key h
      exact ⟨ns, .inl rfl, h1, rfl⟩
    · cases e
  · split at e
    · rename_i h
      cases e
      obtain ⟨ns, rfl, h1, rfl⟩ := key h
      exact ⟨ns, .inr rfl, h1, rfl⟩
    · cases e
  · cases e
section
variable {X : Cx} {cm : CM} {W : WX} {e : Expr} {f : Ex} {p1 p2 pos pos2 : Pos}
theorem g_ss (hc : X.calm = true) (ms : X.mg "sorted" = none) (mt : X.mg "set" = none) (he : GE X cm W e f) (g1 : Gl X "sorted" := by rfl) (g2 : Gl X "set" := by rfl) (hs : starEach [e] X.env = (false, eval e X.env) :: starEach [] X.env := by rfl)
    (hs2 : starEach [Expr.Call (.Name "set" p2) [e] [] pos2] X.env = (false, eval (.Call (.Name "set" p2) [e] [] pos2) X.env) :: starEach [] X.env := by rfl) (hpl : (backTo pos (starEach [] X.env)).any (·.1) = false := by rfl) (hpl2 : (backTo pos2 (starEach [] X.env)).any (·.1) = false := by rfl) :
    GE X cm W (.Call (.Name "sorted" p1) [.Call (.Name "set" p2) [e] [] pos2] [] pos) (e1 (lift1 ssF) f) :=
  pe_imp (pe_callB (cr_sortedSet hc) g1 ms (by decide +kernel) (pa_cons (pe_callTy (cr_setOfI hc) g2 mt (by decide +kernel) (pa_cons he pa_nil hs) (by decide) (by decide) hs hpl2) pa_nil hs2) (by decide) (by decide) hs2 hpl) fun σ H Q ⟨p, ok, h⟩ => ⟨p, ok, (fin.bind h).imp (fun x S1 D1 H1 w s k v r => by
    obtain ⟨a, c, h1, h2, h3⟩ := lift1_inv k
    have hx := view_dw w h1 r
    obtain ⟨ns, ha, hl, rfl⟩ := ssF_inv h2
    have hx' : Dw cm D1 H1 v (.list (ns.map PyData.int)) ∨ Dw cm D1 H1 v (.tuple (ns.map PyData.int)) := by
      rcases ha with rfl | rfl
      · exact .inl hx
      · exact .inr hx
    obtain ⟨q, xs, rfl, h4, h5⟩ := Dw.seq (K := X.K) w.sub hx'
    rw [dvA_ints h5] at h4
    refine ⟨q, ns, rfl, h4, by show _ < 4096; omega, fun a T n na hn hT => ?_⟩
    refine ⟨a, T, n, rfl, upd_same, by omega, fun ms p2 up hm _ np => ?_⟩
    have em : ms = ascI ns := up_unique up (ascI_up ns) fun z => (hm z).trans ((hT z).trans mem_ascI.symm)
    rw [em]
    have w1 := w.newF na (SetO X.w a T n)
    obtain ⟨w2, s2⟩ := w1.new np (.lst ((ascI ns).map V.int))
    have w3 : Wd cm p.A S1 (upd D1 p2 (.lst ((ascI ns).map V.int))) (p.Ow ++ p.Fr) (upd (upd H1 a (SetO X.w a T n)) p2 (.lst ((ascI ns).map V.int))) := w2.drop (Ow := [])
    exact h3 _ _ w3 s2 _ (.lst upd_same ((DvA.ints _).mono s2))) fun _ _ _ _ _ _ z => z⟩
/-! ## sorted(x) of ints -/
def insS (x : Int) : List Int → List Int
  | [] => [x]
  | y :: ys => if y < x then y :: insS x ys else x :: y :: ys
def sortI (ns : List Int) : List Int := ns.foldr insS []
theorem insS_perm {x : Int} : ∀ {ys : List Int}, (insS x ys).Perm (x :: ys)
  | [] => .refl _
  | y :: ys => by
    unfold insS
    split
    · exact (List.Perm.cons y insS_perm).trans (List.Perm.swap x y ys)
    · exact .refl _
theorem insS_up {x : Int} : ∀ {ys : List Int}, ys.Pairwise (· ≤ ·) → (insS x ys).Pairwise (· ≤ ·)
  | [], _ => by simp [insS]
  | y :: ys, h => by
    obtain ⟨h1, h2⟩ := List.pairwise_cons.mp h
    unfold insS
    split
    · rename_i c
      refine List.pairwise_cons.mpr ⟨fun z hz => ?_, insS_up h2⟩
      rcases List.mem_cons.mp (insS_perm.mem_iff.mp hz) with rfl | hz
      · omega
      · exact h1 z hz
    · rename_i c
      refine List.pairwise_cons.mpr ⟨fun z hz => ?_, h⟩
      rcases List.mem_cons.mp hz with rfl | hz
      · omega
      · have := h1 z hz
        omega
theorem sortI_perm : ∀ (ns : List Int), (sortI ns).Perm ns
  | [] => .refl _
  | n :: ns => insS_perm.trans ((sortI_perm ns).cons n)
theorem sortI_up : ∀ (ns : List Int), (sortI ns).Pairwise (· ≤ ·)
  | [] => List.Pairwise.nil
  | n :: ns => insS_up (sortI_up ns)
theorem le_unique : ∀ {xs ys : List Int}, xs.Pairwise (· ≤ ·) → ys.Pairwise (· ≤ ·) → xs.Perm ys → xs = ys
  | [], ys, _, _, p => (List.Perm.nil_eq p)
  | x :: xs, [], _, _, p => absurd p.length_eq (by simp)
  | x :: xs, y :: ys, h1, h2, p => by
    obtain ⟨a1, a2⟩ := List.pairwise_cons.mp h1
    obtain ⟨b1, b2⟩ := List.pairwise_cons.mp h2
    have e : x = y := by
      rcases List.mem_cons.mp (p.mem_iff.mp List.mem_cons_self) with e | e
      · exact e
      · rcases List.mem_cons.mp (p.mem_iff.mpr List.mem_cons_self) with e' | e'
        · exact e'.symm
        · have := a1 y e'
          have := b1 x e
          omega
    subst e
    rw [le_unique a2 b2 (List.Perm.cons_inv p)]
def fSortedI : List PyData → Option PyData
  | [.list ds] => match asInts ds with
    | some ns => some (.list ((sortI ns).map PyData.int))
    | none => none
  | _ => none
theorem c_sortedI : Ca X cm (.builtin "sorted") fSortedI := ⟨_, cr_sortedI, fun A S D F H xs as c Q w hx e q => by
  unfold fSortedI at e
  split at e
  · split at e
    · rename_i ds ns ei
      cases e
      obtain ⟨v, rfl, hv⟩ := dwA1 hx
      obtain ⟨a, ys, rfl, h1, h2⟩ := hv.lst w.sub
      rw [asInts_eq ei] at h2
      rw [dvA_ints h2] at h1
      refine ⟨a, ns, rfl, .of h1, fun ms p pm up np => ?_⟩
      have em : ms = sortI ns := le_unique up (sortI_up ns) (pm.trans (sortI_perm ns).symm)
      rw [em]
      obtain ⟨w', s'⟩ := w.new np (.lst ((sortI ns).map V.int))
      exact q _ _ _ w' s' (.lst upd_same ((DvA.ints _).mono s'))
    · cases e
  · cases e⟩
end
end Sm

set_option maxHeartbeats 4000000
namespace Sm
open PySem PySem.Spec PyProof.Rows L2 Lf

/-! ## isinstance -/
theorem kitAny2 {K : PySem.W.Frag} {t : Value} {a b : Bool} {c1 c2 : Value} (h1 : PySem.W.kitOne K t c1 = some a) (h2 : PySem.W.kitOne K t c2 = some b) : PySem.W.kitAny K t [c1, c2] = some (a || b) := by
  refine kitAny_cons h1 (fun ha => kitAny_cons h2 (fun hb => ?_) (fun hb => by rw [hb, Bool.or_true])) (fun ha => by rw [ha, Bool.true_or])
  rw [ha, hb]
  exact kitAny_nil
/-- the built-in types that are asked for -/
inductive Ty where
  | list | tuple | str | bool | int
def Ty.name : Ty → String
  | .list => "list" | .tuple => "tuple" | .str => "str" | .bool => "bool" | .int => "int"
def Ty.has : Ty → PyData → Bool
  | .list, d => isLst d
  | .tuple, d => isTup d
  | .str, d => isStr d
  | .bool, d => isBl d
  | .int, d => isInt d
theorem kit_has {K : PySem.W.Frag} (t : Ty) (d : PyData) : PySem.W.kitOne K (.type (kindD d)) (.type t.name) = some (t.has d) := by
  cases t
  · exact kit_lst d
  · exact kit_tup d
  · exact kit_str d
  · exact kit_bl d
  · exact kit_int d
def noDct : PyData → Bool
  | .dict _ => false
  | _ => true
theorem Dw.ty {cm : CM} {K : PySem.W.Frag} {D H : Hp} {v : V} {d : PyData} (s : Same D H) (h : Dw cm D H v d) (n : noDct d = true) : TyX K H v (.type (kindD d)) := by
  cases h with
  | d h =>
    cases h with
    | non => exact .base .non
    | bl b => exact .base (.bl b)
    | int i => exact .base (.int i)
    | str x => exact .base (.str x)
    | lst h1 _ => exact .base (.lst (s _ _ h1))
    | tup h1 _ => exact .base (.tup (s _ _ h1))
    | dK _ _ _ => cases n
    | dT _ _ _ => cases n
    | ins _ _ _ => cases n
  | l h1 h2 => exact .base (.lst h1)
def isiF (t : Ty) (d : PyData) : Option PyData := if noDct d then some (.bool (t.has d)) else none
def isi2F (t u : Ty) (d : PyData) : Option PyData := if noDct d then some (.bool (t.has d || u.has d)) else none
section
variable {X : Cx} {cm : CM} {W : WX} {e : Expr} {f : Ex} {pi pt pt2 tp pos : Pos} {xt xu : Str} {kk : Nat}
theorem g_isi (t : Ty) (mi : X.mg "isinstance" = none) (mt : X.mg xt = none) (he : GE X cm W e f) (hv : bootBuiltins xt = some (.type t.name)) (g1 : Gl X "isinstance" := by rfl) (g2 : Gl X xt := by rfl) (hn : xt ≠ "__name__" := by decide) (hdb : (xt == ("__debug__" : Str)) = false := by decide)
    (hs : starEach [e, .Name xt pt] X.env = (false, eval e X.env) :: starEach [Expr.Name xt pt] X.env := by rfl) (hs2 : starEach [Expr.Name xt pt] X.env = (false, eval (.Name xt pt) X.env) :: starEach [] X.env := by rfl)
    (hpl : (backTo pos (starEach [Expr.Name xt pt] X.env)).any (·.1) = false := by rfl) :
    GE X cm W (.Call (.Name "isinstance" pi) [e, .Name xt pt] [] pos) (e1 (lift1 (isiF t)) f) :=
  pe_imp (pe_callB call_isi g1 mi (by decide +kernel) (pa_cons he (pa_cons (pe_bltn (v := .ty t.name) g2 mt hv rfl hn hdb) pa_nil hs2) hs) (by decide) (by decide) hs hpl) fun σ H Q ⟨p, ok, h⟩ => ⟨p, ok, (fin.bind h).imp (fun x S1 D1 H1 w s k v r => by
    obtain ⟨a, c, h1, h2, h3⟩ := lift1_inv k
    have hx := view_dw w h1 r
    unfold isiF at h2
    split at h2
    · rename_i hn
      cases h2
      exact ⟨v, .ty t.name, _, _, _, rfl, .ty _, hx.ty w.sub hn, kit_has t a, h3 D1 H1 w (.refl _) _ (.bl _)⟩
    · cases h2) fun _ _ _ _ _ _ z => z⟩
theorem g_isi2 (t u : Ty) (mi : X.mg "isinstance" = none) (mt : X.mg xt = none) (mu : X.mg xu = none) (he : GE X cm W e f) (hv : bootBuiltins xt = some (.type t.name)) (hu : bootBuiltins xu = some (.type u.name)) (g1 : Gl X "isinstance" := by rfl) (g2 : Gl X xt := by rfl) (g3 : Gl X xu := by rfl) (hn : xt ≠ "__name__" := by decide) (hdb : (xt == ("__debug__" : Str)) = false := by decide) (hn2 : xu ≠ "__name__" := by decide) (hdb2 : (xu == ("__debug__" : Str)) = false := by decide)
    (hs : starEach [e, .Tuple [.Name xt pt, .Name xu pt2] kk tp] X.env = (false, eval e X.env) :: starEach [Expr.Tuple [.Name xt pt, .Name xu pt2] kk tp] X.env := by rfl) (hs2 : starEach [Expr.Tuple [.Name xt pt, .Name xu pt2] kk tp] X.env = (false, eval (.Tuple [.Name xt pt, .Name xu pt2] kk tp) X.env) :: starEach [] X.env := by rfl)
    (hs3 : starEach [Expr.Name xt pt, .Name xu pt2] X.env = (false, eval (.Name xt pt) X.env) :: starEach [Expr.Name xu pt2] X.env := by rfl) (hs4 : starEach [Expr.Name xu pt2] X.env = (false, eval (.Name xu pt2) X.env) :: starEach [] X.env := by rfl)
    (hpl : (backTo pos (starEach [Expr.Tuple [.Name xt pt, .Name xu pt2] kk tp] X.env)).any (·.1) = false := by rfl) :
    GE X cm W (.Call (.Name "isinstance" pi) [e, .Tuple [.Name xt pt, .Name xu pt2] kk tp] [] pos) (e1 (lift1 (isi2F t u)) f) :=
  pe_imp (pe_callB call_isiT g1 mi (by decide +kernel) (pa_cons he (pa_cons (pe_tup (pa_cons (pe_bltn (v := .ty t.name) g2 mt hv rfl hn hdb) (pa_cons (pe_bltn (v := .ty u.name) g3 mu hu rfl hn2 hdb2) pa_nil hs4) hs3)) pa_nil hs2) hs) (by decide) (by decide) hs hpl) fun σ H Q ⟨p, ok, h⟩ => ⟨p, ok, (fin.bind h).imp (fun x S1 D1 H1 w s k v r => by
    obtain ⟨a, c, h1, h2, h3⟩ := lift1_inv k
    have hx := view_dw w h1 r
    unfold isi2F at h2
    split at h2
    · rename_i hn
      cases h2
      refine ⟨by show 2 ≤ sizeLine; decide, fun q nq => ?_⟩
      have w2 := w.newF nq (.tup [.ty t.name, .ty u.name])
      have w3 : Wd cm p.A S1 D1 (p.Ow ++ p.Fr) (upd H1 q (.tup [.ty t.name, .ty u.name])) := w2.drop (Ow := [])
      have hx2 : Dw cm D1 (upd H1 q (.tup [.ty t.name, .ty u.name])) v a := by
        cases hx with
        | d z => exact .d z
        | l z1 z2 => exact .l (by rw [upd_ne (fun z => by rw [z, nq] at z1; cases z1)]; exact z1) z2
      exact ⟨v, q, _, _, _, _, rfl, upd_same, .cons (.ty _) (.cons (.ty _) .nil), hx2.ty w3.sub hn, kitAny2 (kit_has t a) (kit_has u a), h3 D1 _ w3 (.refl _) _ (.bl _)⟩
    · cases h2) fun _ _ _ _ _ _ z => z⟩
end
/-! ## min(l, default=None) of ints -/
def fMinD : PyData → Option PyData
  | .list ds => match asInts ds with
    | some [] => some .none
    | some (n :: ns) => some (.int (minI ns n))
    | none => none
  | _ => none
def rMinD (K : PySem.W.Frag) : List V → List V → Hp → VK → Prop := fun vs zs H Q => ∃ (a : Addr) (ns : List Int), vs = [V.ref a] ∧ zs = [.non] ∧ SqL K H a (ns.map V.int) ∧ (ns = [] → Q .non H) ∧ ∀ m ms, ns = m :: ms → Q (.int (minI ms m)) H
theorem minI_fold (n : Int) (ns : List Int) : ns.foldl (fun a y => if y < a then y else a) n = minI ns n := by
  induction ns generalizing n with
  | nil => rfl
  | cons m ns ih => exact ih _
theorem readsAll_ints {h : Heap} : ∀ {ns : List Int} {us : List Value}, Vals (ns.map V.int) us → ∃ as, PySem.ReadsAll h us (ns.map PyData.int) as
  | [], _, r => by cases r; exact ⟨_, .nil⟩
  | n :: ns, _, r => by
    cases r with
    | cons r1 r2 =>
      obtain ⟨t, rfl⟩ := r1
      obtain ⟨as, h2⟩ := readsAll_ints (h := h) r2
      exact ⟨_, .cons (.int n t) h2⟩
theorem depthAll_ints : ∀ ns : List Int, PyData.depthAll (ns.map PyData.int) = 0
  | [] => by simp [PyData.depthAll]
  | n :: ns => by
    have := depthAll_ints ns
    simp only [List.map_cons, PyData.depthAll, PyData.depth]
    omega
theorem alikeAll_ints : ∀ ns : List Int, PySem.W.AlikeAll (ns.map PyData.int) := fun ns => by
  refine ⟨fun d hd e he => ?_, fun d hd => ?_⟩
  · obtain ⟨i, _, rfl⟩ := List.mem_map.mp hd
    obtain ⟨j, _, rfl⟩ := List.mem_map.mp he
    simp [PySem.W.alike]
  · obtain ⟨i, _, rfl⟩ := List.mem_map.mp hd
    exact fun z => nomatch z
section
variable {X : Cx} {cm : CM} {W : WX} {e : Expr} {f : Ex} {p1 pos kp cp : Pos} {j : Nat}
theorem crk_minD {k : Nat} (hr : Room k X.A) (hc : X.calm = true) : CallRK X (.builtin "min") ([(Str.ofString "default")] : List Str) (rMinD X.K) := by
  intro pins s σ H xs zs us ws Q I r1 r2 h
  obtain ⟨a, ns, rfl, rfl, hl, h0, h1⟩ := h
  obtain ⟨u, rfl, ru⟩ := vals1 r1
  obtain rfl : u = Value.ref a := ru
  obtain ⟨u2, rfl, ru2⟩ := vals1 r2
  obtain rfl : u2 = Value.none := ru2
  obtain ⟨its, rv, hp, hz⟩ := I.list hl
  obtain ⟨as, hR⟩ := readsAll_ints (h := s.heap) rv
  refine PySem.W.min_list_default (I.ok.hd hc) hp.isList (by simpa using hR) (alikeAll_ints ns) (by rw [depthAll_ints]; have := hr.un; omega) (fun e h' tk k => ?_) fun y ys i v h' tk bs e ei rd k => ?_
  · have e2 : ns = [] := by
      cases ns with
      | nil => rfl
      | cons _ _ => cases e
    exact ⟨.non, H, I.kept k, rfl, h0 e2⟩
  · cases ns with
    | nil => cases e
    | cons m ms =>
      have e3 : y = .int m ∧ ys = ms.map PyData.int := by
        rw [List.map_cons] at e
        injection e with e1 e2
        exact ⟨e1.symm, e2.symm⟩
      obtain ⟨rfl, rfl⟩ := e3
      have e4 : PySem.W.minD (.int m) (ms.map PyData.int) = .int (minI ms m) := by
        rw [PySem.W.minD_ints]
        rw [← minI_fold]
        congr 2
        funext a b
        show min a b = if b < a then b else a
        rw [Int.min_def]
        split <;> split <;> omega
      rw [e4] at rd
      cases rd with
      | int _ t => exact ⟨.int _, H, I.kept k, ⟨t, rfl⟩, h1 m ms rfl⟩
theorem g_minD {k : Nat} (hr : Room k X.A) (hc : X.calm = true) (mm : X.mg "min" = none) (he : GE X cm W e f) (g1 : Gl X "min" := by rfl)
    (he2 : backTo pos (starEach [e] X.env) = (false, eval e X.env) :: backTo pos (starEach [] X.env) := by rfl) (hpl : (backTo pos (starEach [e] X.env)).any (·.1) = false := by rfl) (hs : starEach [e] X.env = (false, eval e X.env) :: starEach [] X.env := by rfl)
    (hall : (backToKw pos (keywordEach [⟨some "default", .Constant .none j cp, kp⟩] X.env)).all (·.1.isSome) = true := by rfl) (hnone : (backToKw pos (keywordEach [⟨some "default", .Constant .none j cp, kp⟩] X.env)).any (·.1.isNone) = false := by rfl) (hks : (backToKw pos (keywordEach [⟨some "default", .Constant .none j cp, kp⟩] X.env)).filterMap (·.1) = ([(Str.ofString "default")] : List Str) := by rfl) :
    GE X cm W (.Call (.Name "min" p1) [e] [⟨some "default", .Constant .none j cp, kp⟩] pos) (e1 (lift1 fMinD) f) :=
  pe_imp (pe_callBK (crk_minD hr hc) g1 mm (by decide +kernel) (pa_cons he pa_nil hs) (pk_cons pe_non pk_nil) (by decide) (by decide) he2 hpl hall hnone hks) fun σ H Q ⟨p, ok, h⟩ => ⟨p, ok, (fin.bind h).imp (fun x S1 D1 H1 w s k v r => by
    obtain ⟨a, c, h1, h2, h3⟩ := lift1_inv k
    have hx := view_dw w h1 r
    unfold fMinD at h2
    split at h2
    · rename_i ds
      obtain ⟨q, xs, rfl, h4, h5⟩ := hx.lst w.sub
      split at h2
      · rename_i ei
        cases h2
        rw [asInts_eq ei] at h5
        rw [dvA_ints h5] at h4
        exact ⟨q, [], rfl, rfl, .of h4, fun _ => h3 D1 H1 w (.refl _) _ .non, fun m ms z => nomatch z⟩
      · rename_i n ns ei
        cases h2
        rw [asInts_eq ei] at h5
        rw [dvA_ints h5] at h4
        refine ⟨q, n :: ns, rfl, rfl, .of h4, (fun z => nomatch z), fun m ms z => ?_⟩
        cases z
        exact h3 D1 H1 w (.refl _) _ (.int _)
      · cases h2
    · cases h2) fun _ _ _ _ _ _ z => z⟩
end
end Sm

set_option maxHeartbeats 4000000
namespace Sm
open PySem PySem.Spec PyProof.Rows L2 Lf

/-! ## a < b <= c -/
def eChain (f g : PyData → PyData → Option PyData) (a b c : Ex) : Ex := fun ρ S => (a ρ S).bind fun x S1 => (b ρ S1).bind fun y S2 => (lift2 f x y S2).bind fun t S3 => match t with
  | .d (.bool true) => (c ρ S3).bind (lift2 g y)
  | .d (.bool false) => .ok (.d (.bool false)) S3
  | _ => .no
section
variable {X : Cx} {cm : CM} {W : WX} {a b c : Expr} {fa fb fc : Ex} {pos : Pos}
theorem chain_red {r r' : R2} {f g : PyData → PyData → Option PyData} (hf : OpF cm r f) (hg : OpF cm r' g) {σ : L2.St} {H : Hp} {Q : VK} (h : tE cm W (eChain f g fa fb fc) σ H Q) : tChain r r' (tE cm W fa) (tE cm W fb) (tE cm W fc) σ H Q := by
  obtain ⟨p, ok, h⟩ := h
  refine ⟨p, ok, (fin.bind h).imp (fun x S1 D1 H1 w s k v r1 => ?_) fun _ _ _ _ _ _ z => z⟩
  refine ⟨⟨p.A, S1, D1, p.Ow, p.Fr, p.ρ⟩, ok.on w s, (fin.bind k).imp (fun y S2 D2 H2 w2 s2 k2 u r2 => ?_) fun _ _ _ _ _ _ z => z⟩
  obtain ⟨a, b, c, h1, h2, h3, h4⟩ := lift2_inv (fin.bind k2)
  refine hf _ _ _ _ _ _ _ _ _ _ _ w2 (view_dw w2 h1 (r1.mono s2)) (view_dw w2 h2 r2) h3 fun D3 H3 v3 w3 s3 hv3 => ?_
  have k3 := h4 D3 H3 w3 s3
  split at k3
  · rename_i e
    cases e
    cases hv3
    refine ⟨true, rfl, ?_⟩
    rw [if_pos rfl]
    refine ⟨⟨p.A, S2, D3, p.Ow, p.Fr, p.ρ⟩, ok.on w3 (s.trans (s2.trans s3)), (fin.bind k3).imp (fun z S4 D4 H4 w4 s4 k4 t r4 => ?_) fun _ _ _ _ _ _ z => z⟩
    obtain ⟨a', b', c', g1, g2, g3, g4⟩ := lift2_inv k4
    exact hg _ _ _ _ _ _ _ _ _ _ _ w4 (view_dw w4 g1 (r2.mono (s3.trans s4))) (view_dw w4 g2 r4) g3 fun D' H' v w' s' hv => g4 D' H' w' s' v hv
  · rename_i e
    cases e
    cases hv3
    refine ⟨false, rfl, ?_⟩
    rw [if_neg Bool.false_ne_true]
    exact k3 D3 H3 w3 (.refl _) _ (.bl _)
  · exact absurd k3 id
theorem g_chain {op op' : CmpOp} {f g : PyData → PyData → Option PyData} (o : Op2 X cm (compareOp op) f) (o' : Op2 X cm (compareOp op') g) (ha : GE X cm W a fa) (hb : GE X cm W b fb) (hc : GE X cm W c fc) (hm : lastMarks [op, op'] [b, c] = false := by with_unfolding_all rfl) :
    GE X cm W (.Compare a [op, op'] [b, c] pos) (eChain f g fa fb fc) := by
  obtain ⟨r, ho, hf⟩ := o
  obtain ⟨r', ho', hg⟩ := o'
  exact pe_imp (pe_chain ho ho' ha hb hc hm) fun σ H Q h => chain_red hf hg h
theorem gt_chain {op op' : CmpOp} {f g : PyData → PyData → Option PyData} (o : Op2 X cm (compareOp op) f) (o' : Op2 X cm (compareOp op') g) (ha : GE X cm W a fa) (hb : GE X cm W b fb) (hc : GE X cm W c fc) (hm : lastMarks [op, op'] [b, c] = false := by with_unfolding_all rfl) :
    GT X cm W (.Compare a [op, op'] [b, c] pos) (eTest (eChain f g fa fb fc)) := by
  obtain ⟨r, ho, hf⟩ := o
  obtain ⟨r', ho', hg⟩ := o'
  refine pt_imp (pt_chain ho ho' ha hb hc hm) fun σ H Q ⟨p, ok, h⟩ => ?_
  refine chain_red (W := W) hf hg ⟨p, ok, (fin.bind h).imp (fun x S1 D1 H1 w s k v r1 => ?_) fun _ _ _ _ _ _ z => z⟩
  obtain ⟨t, e, h5⟩ := toB_inv k
  cases e
  cases r1
  exact ⟨t, rfl, h5 D1 H1 w (.refl _)⟩
/-! ## what is never come to -/
def sStuck : Sx := fun _ _ => none
theorem gs_never {st : Stmt} : GS X cm W st sStuck := ps_imp ps_never fun D σ H ⟨p, ok, h⟩ => h
end
section
variable {P : Program} {w : World} {K : PySem.W.Frag} {mg : Str → Option Value} {base : Heap} {f : Addr} {fd : FuncData} {cm : CM}
/-- the def that is not known yet -/
def fNo : Fn := fun _ _ => .no
theorem fn_none {ps : List Str} {k : Nat} : FnOk P w K mg base (L2.CX P w) k f fd ps (spF cm ps.length fNo) :=
  ⟨fun vs H Q E ⟨_, _, _, _, _, _, _, _, h⟩ => absurd h id, fun A outer s H args us vs Q E _ _ _ _ ⟨_, _, _, _, _, _, _, _, h⟩ => absurd h id⟩
theorem GF.mono {x : Str} {ps : List Str} {F : Fn} {j k : Nat} (h : GF P w K mg base cm j x ps F) (l : j ≤ k) : GF P w K mg base cm k x ps F := by
  obtain ⟨f, fd, ok, r⟩ := h
  exact ⟨f, fd, ok.mono l, r⟩
end
end Sm

set_option maxHeartbeats 4000000
namespace Sm
open PySem PySem.Spec PyProof.Rows L2 Lf

/-! ## zip -/
def zipD (ds es : List PyData) : List PyData := List.zipWith (fun a b => .tuple [a, b]) ds es
def zip2 : List Vl → M (List PyData)
  | [.d (.list ds), .d (.list es)] => fun S => .ok (zipD ds es) S
  | [.d (.tuple ds), .d (.tuple es)] => fun S => .ok (zipD ds es) S
  | _ => fun _ => .no
theorem walk_zipT2 {K : PySem.W.Frag} {a b : Addr} {xs ys : List V} {n : Nat} (hn : n = min xs.length ys.length) : Walk (RZ.ItzT K a b) n (fun H => SqT K H a xs ∧ SqT K H b ys) (YPair (fun i => xs[i]?) (fun i => ys[i]?)) := by
  subst hn
  refine ⟨fun i _ hi q => ?_, fun _ q => ⟨xs, ys, q.1, q.2, by omega⟩, fun i H v H' _ q y => ?_⟩
  · have h1 : i < xs.length := by omega
    have h2 : i < ys.length := by omega
    exact ⟨xs, ys, xs[i], ys[i], q.1, q.2, by simp [h1], by simp [h2]⟩
  · obtain ⟨T, x, z, h1, h2, h3, h4, h5⟩ := y
    exact ⟨T, x, z, h1, h2, h3, h4 xs q.1, h5 ys q.2⟩
section
variable {cm : CM} {D0 : Hp} {ds es : List PyData}
theorem yh_pair {xs ys : List V} (hd : DvA cm D0 xs ds) (he : DvA cm D0 ys es) {i : Nat} {H : Hp} {x : V} {H' : Hp} (y : YPair (fun i => xs[i]?) (fun i => ys[i]?) i H x H') : YH cm D0 (zipD ds es) i H x H' := by
  intro A S D F wd s
  obtain ⟨T, x1, x2, rfl, nT, rfl, e1, e2⟩ := y
  obtain ⟨d1, g1, k1⟩ := hd.get e1
  obtain ⟨d2, g2, k2⟩ := he.get e2
  obtain ⟨w', s'⟩ := wd.new nT (.tup [x1, x2])
  refine ⟨_, .tuple [d1, d2], ?_, w', s', .tup upd_same (.cons (k1.mono (s.trans s')) (.cons (k2.mono (s.trans s')) .nil))⟩
  unfold zipD
  rw [List.getElem?_zipWith, g1, g2]
theorem zipD_len {xs ys : List V} (hd : DvA cm D0 xs ds) (he : DvA cm D0 ys es) : (zipD ds es).length = min xs.length ys.length := by
  unfold zipD
  rw [List.length_zipWith, hd.length, he.length]
theorem yl_zip {K : PySem.W.Frag} {a b : Addr} {xs ys : List V} (h1 : D0 a = some (.lst xs)) (hd : DvA cm D0 xs ds) (h2 : D0 b = some (.lst ys)) (he : DvA cm D0 ys es) : Yl cm (Itz K a b) D0 (zipD ds es) :=
  (walk_zip (K := K) (a := a) (b := b) (xs := xs) (ys := ys) (zipD_len hd he)).mono (fun H ⟨A, S, D, F, wd, s⟩ => ⟨.of (wd.sub _ _ (s _ _ h1)), .of (wd.sub _ _ (s _ _ h2))⟩) fun i H x H' _ _ y => yh_pair hd he y
theorem yl_zipT {K : PySem.W.Frag} {a b : Addr} {xs ys : List V} (h1 : D0 a = some (.tup xs)) (hd : DvA cm D0 xs ds) (h2 : D0 b = some (.tup ys)) (he : DvA cm D0 ys es) : Yl cm (RZ.ItzT K a b) D0 (zipD ds es) :=
  (walk_zipT2 (K := K) (a := a) (b := b) (xs := xs) (ys := ys) (zipD_len hd he)).mono (fun H ⟨A, S, D, F, wd, s⟩ => ⟨.of (wd.sub _ _ (s _ _ h1)), .of (wd.sub _ _ (s _ _ h2))⟩) fun i H x H' _ _ y => yh_pair hd he y
end
section
variable {X : Cx} {cm : CM} {W : WX} {e e' : Expr} {fs : Exs} {p pos tpos : Pos} {elts : List Expr} {kk : Nat}
theorem gi_zip (hm : X.mg "zip" = none) (ha : GA X cm W [e, e'] fs) (hg : Gl X "zip" := by rfl) (hs : starEach [e, e'] X.env = (false, eval e X.env) :: starEach [e'] X.env := by rfl) (hpl : (backTo pos (starEach [e'] X.env)).any (·.1) = false := by rfl) : GI X cm W (.Tuple elts kk tpos) (.Call (.Name "zip" p) [e, e'] [] pos) (iArgs zip2 fs) :=
  pi_imp (RZ.pi_zipA hg hm ha (hs := hs) (hpl := hpl)) fun σ H R ⟨p, ok, h⟩ => ⟨p, ok, (fin.bind h).imp (fun x S1 D1 H1 w s k vs r1 => by
    unfold zip2 at k
    split at k
    · obtain ⟨v, u, rfl, r2, r3⟩ := vrs2 r1
      cases r2 with
      | @lst a xs _ h1 h2 =>
        cases r3 with
        | @lst b ys _ h3 h4 => exact ⟨a, b, xs, ys, rfl, .inl ⟨.of (w.sub _ _ h1), .of (w.sub _ _ h3), k D1 H1 w (.refl _) _ (yl_zip h1 h2 h3 h4)⟩⟩
    · obtain ⟨v, u, rfl, r2, r3⟩ := vrs2 r1
      cases r2 with
      | @tup a xs _ h1 h2 =>
        cases r3 with
        | @tup b ys _ h3 h4 => exact ⟨a, b, xs, ys, rfl, .inr ⟨.of (w.sub _ _ h1), .of (w.sub _ _ h3), k D1 H1 w (.refl _) _ (yl_zipT h1 h2 h3 h4)⟩⟩
    · exact absurd k id) fun _ _ _ _ _ _ z => z⟩
end
end Sm

set_option maxHeartbeats 4000000
namespace Lf
open PySem PySem.Spec PyProof.Rows L2

/-! ## a tuple's slice by steps -/
/-- where it begins, how many places -/
def stepP (n : Nat) (lo : Option Int) (c : Int) : Int × Nat := ((Builtin.Slice.sliceAdjust lo none c n).1, Builtin.Slice.slicePlaces (Builtin.Slice.sliceAdjust lo none c n).1 (Builtin.Slice.sliceAdjust lo none c n).2 c)
def stepL {α : Type} (xs : List α) (p : Int × Nat) (c : Int) : List α := (List.range p.2).filterMap fun (k : Nat) => xs[(p.1 + (k : Int) * c).toNat]?
theorem stepL_len {α : Type} (xs : List α) (p : Int × Nat) (c : Int) : (stepL xs p c).length ≤ p.2 := by
  refine Nat.le_trans (List.length_filterMap_le _ _) ?_
  rw [List.length_range]
  exact Nat.le_refl _
theorem vals_stepL {xs : List V} {us : List Value} (r : Vals xs us) (p : Int × Nat) (c : Int) : Vals (stepL xs p c) (stepL us p c) := by
  unfold stepL
  generalize List.range p.2 = ks
  induction ks with
  | nil => exact .nil
  | cons k ks ih =>
    rw [List.filterMap_cons, List.filterMap_cons]
    cases e : xs[(p.1 + (k : Int) * c).toNat]? with
    | none =>
      have e2 : us[(p.1 + (k : Int) * c).toNat]? = none := by
        rw [List.getElem?_eq_none_iff] at e ⊢
        rw [← r.length]
        exact e
      rw [e2]
      exact ih
    | some x =>
      obtain ⟨u, eu, ru⟩ := r.get e
      rw [eu]
      exact .cons ru ih
section
variable {X : Cx}
theorem applied_step {pr : Program} {w : World} {A : Around} {E : Value → Shared → Prop} {s : Shared} {sl : Addr} {vl vs : Value} {lo : Option Int} {c : Int} {n : Nat} {Q : Int × Int × Nat → Shared → Prop} (hs : s.heap.IsSliceOf sl vl .none vs) (pl : IsPart vl lo) (ps : IsPart vs (some c)) (hc0 : c ≠ 0)
    (h : Q ((stepP n lo c).1, c, (stepP n lo c).2) s) : wpAny (model pr w) A (Builtin.Slice.sliceApplied (.ref sl) (pure (n : Int))) Q E s := by
  obtain ⟨os, hos, hcs, hds⟩ := id hs
  unfold Builtin.Slice.sliceApplied Builtin.Slice.sliceFields
  refine wpAny_bind (wpAny_bind (wpAny_field hos hds (x := vl) rfl (wpAny_bind (wpAny_field hos hds (x := .none) rfl (wpAny_bind (wpAny_field hos hds (x := vs) rfl (wpAny_pure ?_)))))))
  refine wpAny_bind (HT.slicePart_ ps (show wpAny _ _ (if (c == 0) = true then _ else _) _ _ s from ?_))
  rw [if_neg (by simpa using hc0)]
  refine wpAny_bind (HT.slicePart_ pl (wpAny_bind (HT.slicePart_ .none (wpAny_bind (wpAny_pure ?_)))))
  exact wpAny_pure h
theorem getItem_step {pr : Program} {w : World} {A : Around} {E : Value → Shared → Prop} {s : Shared} {t sl : Addr} {items : Array Value} {vl vs : Value} {lo : Option Int} {c : Int} {Q : Value → Shared → Prop} (ht : IsTup s.heap t items) (hs : s.heap.IsSliceOf sl vl .none vs) (pl : IsPart vl lo) (ps : IsPart vs (some c)) (hc0 : c ≠ 0) (hc1 : c ≠ 1)
    (hn : (stepP items.size lo c).2 ≤ 1000) (h : Q (.ref s.heap.objs.size) { s with heap := s.heap.push { cls := .type "tuple", data := .seq (stepL items.toList (stepP items.size lo c) c).toArray } }) : wpAny (model pr w) A (getItem (.ref t) (.ref sl)) Q E s := by
  have hz : sizeOk (.seq (stepL items.toList (stepP items.size lo c) c).toArray) := by
    show (stepL items.toList (stepP items.size lo c) c).toArray.size ≤ sizeLine
    rw [List.size_toArray]
    exact Nat.le_of_lt (small1000 (Nat.le_trans (stepL_len _ _ _) hn))
  obtain ⟨os, hos, hcs, hds⟩ := id hs
  have hTs : s.TypeIs (.ref sl) "slice" := ⟨os, hos, hcs⟩
  unfold getItem
  try with_reducible refine wpAny_holding ?_
  first | refine wpAny_bind (wpAny_pure ?_) | skip
  refine wpAny_bind (wpAny_sequenceKey ht.typeIs (by decide) (wpAny_bind (wpAny_callSpecial?_slot (name := Str.ofString "__getitem__") ht.typeIs PyProof.Rows.slot_tuple_getitem (wpAny_call_entry PyProof.Rows.slot_tuple_getitem ht.typeIs PyProof.Rows.entry_tuple_getitem ?_ (PyProof.Rows.args_tuple_getitem _ _)))))
  show wpAny _ _ (Builtin.Tuple.tupleItemsOf (.ref t) >>= _) _ _ s
  refine wpAny_bind (PyProof.Rows.tupleItemsOf_ ht (wpAny_bind (wpAny_typeOf hTs ?_)))
  rw [if_pos (by decide)]
  refine wpAny_bind (applied_step hs pl ps hc0 ?_)
  have hno : ¬ (((stepP items.size lo c).1 == 0 && c == 1 && (stepP items.size lo c).2 == items.size) = true) := by
    intro q
    rw [Bool.and_eq_true, Bool.and_eq_true] at q
    exact hc1 (eq_of_beq q.1.2)
  show wpAny _ _ (if ((stepP items.size lo c).1 == 0 && c == 1 && (stepP items.size lo c).2 == items.size) = true then _ else _) _ _ s
  rw [if_neg hno]
  have ep : ((List.range (stepP items.size lo c).2).filterMap fun (k : Nat) => items[((stepP items.size lo c).1 + (k : Int) * c).toNat]?).toArray = (stepL items.toList (stepP items.size lo c) c).toArray := by
    unfold stepL
    congr 1
    refine congrArg (fun f => List.filterMap f _) ?_
    funext k
    exact Array.getElem?_toList.symm
  rw [ep]
  first
    | exact wpAny_bind (m := Builtin.Tuple.tupleExact _) (wpAny_newObj_type (wpAny_pure ⟨_, rfl, wpAny_pure h⟩) hz)
    | exact wpAny_bind (m := Builtin.Tuple.tupleExact _) (wpAny_newObj_type (wpAny_bind (wpAny_pure (wpAny_pure ⟨_, rfl, wpAny_pure h⟩))) hz)
    | exact wpAny_bind (wpAny_bind (m := Builtin.Tuple.tupleExact _) (wpAny_newObj_type (wpAny_pure (wpAny_pure ⟨_, rfl, wpAny_pure h⟩)) hz))
    | exact wpAny_bind (wpAny_bind (m := Builtin.Tuple.tupleExact _) (wpAny_newObj_type (wpAny_pure ⟨_, rfl, wpAny_pure h⟩) hz))

/-- x[::-1], of a list or a tuple -/
theorem stepP_rev (n : Nat) : stepP n none (-1) = ((n : Int) - 1, n) := by
  unfold stepP
  have h1 : (Builtin.Slice.sliceAdjust none none (-1) n) = ((n : Int) - 1, -1) := by
    unfold Builtin.Slice.sliceAdjust
    simp
  rw [h1]
  unfold Builtin.Slice.slicePlaces
  simp
  omega
theorem stepL_rev {α : Type} (xs : List α) : stepL xs (stepP xs.length none (-1)) (-1) = xs.reverse := by
  rw [stepP_rev]
  unfold stepL
  have h : (List.range xs.length).filterMap (fun (k : Nat) => xs[((xs.length : Int) - 1 + (k : Int) * -1).toNat]?) = (List.range xs.reverse.toArray.size).filterMap (xs.reverse.toArray[·]?) := by
    rw [List.size_toArray, List.length_reverse]
    have cong : ∀ (ks : List Nat) (f g : Nat → Option α), (∀ k ∈ ks, f k = g k) → ks.filterMap f = ks.filterMap g := fun ks f g h => by
      induction ks with
      | nil => rfl
      | cons k ks ih => rw [List.filterMap_cons, List.filterMap_cons, h k List.mem_cons_self, ih fun x hx => h x (List.mem_cons_of_mem _ hx)]
    refine cong _ _ _ fun k hk => ?_
    have hk := List.mem_range.mp hk
    rw [List.getElem?_toArray, List.getElem?_reverse hk]
    congr 1
    omega
  exact h.trans (PySem.W.krv_all _)
def tRevA (K : PySem.W.Frag) (te : TE) : TE := fun σ H Q => te σ H fun x H1 => ∃ a xs, x = .ref a ∧ ((SqL K H1 a xs ∧ ∀ p, H1 p = none → Q (.ref p) (upd H1 p (.lst xs.reverse))) ∨ (SqT K H1 a xs ∧ xs.length ≤ 1000 ∧ ∀ p, H1 p = none → Q (.ref p) (upd H1 p (.tup xs.reverse))))
theorem pe_revA {e : Expr} {te : TE} {k : Nat} {p1 p2 p3 pos : Pos} (he : PE X e te) : PE X (.Subscript e (.Slice none none (some (.UnaryOp .USub (.Constant (.int 1) k p1) p2)) p3) pos) (tRevA X.K te) := by
  refine ⟨fun pins s σ H Q I h => ?_⟩
  refine Subscript_ (thn (he.run pins s σ H _ I h) fun v s1 ⟨x, H1, I1, r1, q1⟩ => ?_)
  obtain ⟨a, xs, ex, hx⟩ := q1
  subst ex
  cases r1
  have hst : PO X (some (.UnaryOp .USub (.Constant (.int 1) k p1) p2)) (tPart (tUn (rU fun i => .int (-i)) (tC (.int 1)))) := po_some (pe_un un_neg pe_int)
  refine wpAny_Slice (thn (po_none.run pins s1 σ H1 (fun o H2 => o = none ∧ H2 = H1) I1 ⟨rfl, rfl⟩) fun vl s2 ⟨l, H2, I2, pl, el, e2⟩ => ?_)
  subst el e2
  refine thn (po_none.run pins s2 σ H2 (fun o H3 => o = none ∧ H3 = H2) I2 ⟨rfl, rfl⟩) fun vu s3 ⟨u, H3, I3, pu, eu, e3⟩ => ?_
  subst eu e3
  refine thn (hst.run pins s3 σ H3 (fun o H4 => o = some (-1) ∧ H4 = H3) I3 ⟨1, rfl, -1, rfl, rfl, rfl⟩) fun vs s4 ⟨o, H4, I4, ps, eo, e4⟩ => ?_
  subst eo e4
  have vn : vu = Value.none := by cases pu; rfl
  subst vn
  have I5 : L2.Inv X pins σ H4 { s4 with heap := s4.heap.push { cls := .type "slice", data := .fields #[vl, .none, vs] } } := I4.kept (t' := s4.toks) fun b ob q => Heap.get?_push_of_some _ q
  rcases hx with ⟨hx, q⟩ | ⟨hx, hn, q⟩
  · obtain ⟨its, r, ht, hz⟩ := I5.list hx
    have hlen := r.length
    show wpAny (model X.prog X.w) X.A (subscriptTail e (.Slice none none (some (.UnaryOp .USub (.Constant (.int 1) k p1) p2)) p3) (.ref a) (.ref s4.heap.objs.size)) (EP X pins σ Q) X.xe { s4 with heap := s4.heap.push { cls := .type "slice", data := .fields #[vl, .none, vs] } }
    refine tail_any (ops := [.ref a, .ref s4.heap.objs.size]) ht.isList.typeIs (PySem.slot_list_getitem.lookup) ?_ (by with_unfolding_all rfl)
    refine wpAny_getItem_list_slice ht.isList (Heap.IsSliceOf.new _ vl .none vs) pl pu ps (by decide) ?_ (by rw [List.size_toArray]; omega)
    rw [PySem.W.krv_pick]
    refine ⟨.ref _, _, I5.laid (t' := s4.toks) (o := .lst xs.reverse) (fun b ob q => Heap.get?_push_of_some _ q) (Nat.le_refl _) ?_, rfl, q _ (I5.hok.fresh (Nat.le_refl _))⟩
    exact ⟨by rw [List.length_reverse]; exact hz, _, 0, r.reverse, Heap.get?_push_size _ rfl⟩
  · obtain ⟨its, r, ht, hz⟩ := I5.tuple hx
    have hlen : its.toArray.size = xs.length := by rw [List.size_toArray]; exact r.length.symm
    have hlen' : its.length = xs.length := r.length.symm
    show wpAny (model X.prog X.w) X.A (subscriptTail e (.Slice none none (some (.UnaryOp .USub (.Constant (.int 1) k p1) p2)) p3) (.ref a) (.ref s4.heap.objs.size)) (EP X pins σ Q) X.xe { s4 with heap := s4.heap.push { cls := .type "slice", data := .fields #[vl, .none, vs] } }
    refine tail_any (ops := [.ref a, .ref s4.heap.objs.size]) ht.typeIs PyProof.Rows.slot_tuple_getitem.lookup (getItem_step ht (Heap.IsSliceOf.new _ vl .none vs) pl ps (by decide) (by decide) (by rw [hlen, stepP_rev]; exact hn) ?_) (by with_unfolding_all rfl)
    rw [hlen, show stepL its.toArray.toList (stepP xs.length none (-1)) (-1) = its.reverse by rw [← hlen']; exact stepL_rev its]
    refine ⟨.ref _, _, I5.laid (t' := s4.toks) (o := .tup xs.reverse) (fun b ob q => Heap.get?_push_of_some _ q) (Nat.le_refl _) ⟨by rw [List.length_reverse]; exact Nat.le_of_lt (small1000 hn), _, r.reverse, IsTup.new _ _⟩, rfl, q _ (I5.hok.fresh (Nat.le_refl _))⟩
end
end Lf
namespace Sm
open PySem PySem.Spec PyProof.Rows L2 Lf
section
variable {X : Cx} {cm : CM} {W : WX} {a b c e : Expr} {fa fb fc f : Ex} {pos : Pos}
/-! ## a, b, c = x, y, z -/
def sPar3 (i j l : Nat) (fa fb fc : Ex) : Sx := fun ρ S => sE (fa ρ S) ρ fun x S1 => sE (fb ρ S1) ρ fun y S2 => sE (fc ρ S2) ρ fun z S3 => if notO x && notO y && notO z then some (.nx, ((ρ.set i (some x)).set j (some y)).set l (some z), S3) else none
theorem gs_par3 {i j l : Nat} {x y z : Str} {px py pz pt : Pos} {kt k2 pt2} (hc : X.calm = true) (hN : X.N.Nodup) (hi : X.N[i]? = some x) (hj : X.N[j]? = some y) (hl : X.N[l]? = some z) (hij : i ≠ j) (hil : i ≠ l) (hjl : j ≠ l)
    (hx : X.env.scope.names.lookup x = some .local) (hy : X.env.scope.names.lookup y = some .local) (hz : X.env.scope.names.lookup z = some .local) (ha : GE X cm W a fa) (hb : GE X cm W b fb) (hcc : GE X cm W c fc)
    (hsa : starEach [a, b, c] X.env = (false, eval a X.env) :: starEach [b, c] X.env) (hsb : starEach [b, c] X.env = (false, eval b X.env) :: starEach [c] X.env) (hsc : starEach [c] X.env = (false, eval c X.env) :: starEach [] X.env)
    (hw : swappedStores [.Tuple [.Name x px, .Name y py, .Name z pz] kt pt] (.Tuple [a, b, c] k2 pt2) X.env = pure (some [x, y, z]))
    (hs : swapsWithSole [.Tuple [.Name x px, .Name y py, .Name z pz] kt pt] (.Tuple [a, b, c] k2 pt2) pos.line X.env = pure false := by rfl) :
    GS X cm W (.Assign [.Tuple [.Name x px, .Name y py, .Name z pz] kt pt] (.Tuple [a, b, c] k2 pt2) pos) (sPar3 i j l fa fb fc) :=
  ps_imp (ps_par3 hc hN hi hj hl hij hil hjl hx hy hz (pa_cons ha (pa_cons hb (pa_cons hcc pa_nil hsc) hsb) hsa) hw hs) fun D σ H ⟨p, ok, h⟩ => by
    refine ⟨p, ok, finE (W := W) (okQ := fun x S1 D1 H1 => ∀ v, VR cm p.A D1 p.Ow x v → tCons (tE cm W fb) (tCons (tE cm W fc) tNil) σ H1 fun vs H2 => ∃ v' w' u', v :: vs = [v', w', u'] ∧ D.nx (((σ.set i (some v')).set j (some w')).set l (some u')) H2) ok h (fun x S1 D1 H1 _ ok1 s k v r => ?_) fun e S1 D1 H1 z => z⟩
    refine ⟨⟨p.A, S1, D1, p.Ow, p.Fr, p.ρ⟩, ok1, finE (W := W) (okQ := fun y S2 D2 H2 => ∀ u, VR cm p.A D2 p.Ow y u → tCons (tE cm W fc) tNil σ H2 fun vs H3 => ∃ v' w' u', v :: u :: vs = [v', w', u'] ∧ D.nx (((σ.set i (some v')).set j (some w')).set l (some u')) H3) ok1 k (fun y S2 D2 H2 _ ok2 s2 k2 u r2 => ?_) fun e S1 D1 H1 z => z⟩
    refine ⟨⟨p.A, S2, D2, p.Ow, p.Fr, p.ρ⟩, ok2, finE (W := W) (okQ := fun z S3 D3 H3 => ∀ t, VR cm p.A D3 p.Ow z t → D.nx (((σ.set i (some v)).set j (some u)).set l (some t)) H3) ok2 k2 (fun z S3 D3 H3 _ ok3 s3 k3 t r3 => ?_) (fun e S1 D1 H1 z => z) |>.imp (fun z S3 D3 H3 w3 s3 k3 t r3 => ⟨v, u, t, rfl, k3 t r3⟩) fun _ _ _ _ _ _ z => z⟩
    split at k3
    · rename_i hn
      rw [Bool.and_eq_true, Bool.and_eq_true] at hn
      have n1 : ∀ ds, x ≠ .o ds := fun ds z => by subst z; exact absurd hn.1.1 Bool.false_ne_true
      have n2 : ∀ ds, y ≠ .o ds := fun ds z => by subst z; exact absurd hn.1.2 Bool.false_ne_true
      have n3 : ∀ ds, z ≠ .o ds := fun ds q => by subst q; exact absurd hn.2 Bool.false_ne_true
      exact k3 D3 p.Ow _ H3 ⟨ok3.wd, ((ok3.er.set ((r.mono s2).mono s3) n1).set (r2.mono s3) n2).set r3 n3⟩ (.refl _)
    · exact absurd k3 id
/-! ## x[::-1] -/
def rev2F : PyData → Option PyData
  | .list ds => some (.list ds.reverse)
  | .tuple ds => if ds.length ≤ 1000 then some (.tuple ds.reverse) else none
  | _ => none
theorem g_rev2 {k : Nat} {p1 p2 p3 : Pos} (he : GE X cm W e f) : GE X cm W (.Subscript e (.Slice none none (some (.UnaryOp .USub (.Constant (.int 1) k p1) p2)) p3) pos) (e1 (lift1 rev2F) f) :=
  pe_imp (pe_revA he) fun σ H Q ⟨p, ok, h⟩ => ⟨p, ok, (fin.bind h).imp (fun x S1 D1 H1 w s k v r => by
    obtain ⟨a, c, h1, h2, h3⟩ := lift1_inv k
    have hx := view_dw w h1 r
    unfold rev2F at h2
    split at h2
    · cases h2
      obtain ⟨q, xs, rfl, h4, h5⟩ := hx.lst w.sub
      refine ⟨q, xs, rfl, .inl ⟨.of h4, fun m nm => ?_⟩⟩
      obtain ⟨w', s'⟩ := w.new nm (.lst xs.reverse)
      exact h3 _ _ w' s' _ (.lst upd_same (h5.rev.mono s'))
    · split at h2
      · rename_i hn
        cases h2
        obtain ⟨q, xs, rfl, h4, h5⟩ := hx.tup
        refine ⟨q, xs, rfl, .inr ⟨.of (w.sub _ _ h4), by rw [h5.length]; exact hn, fun m nm => ?_⟩⟩
        obtain ⟨w', s'⟩ := w.new nm (.tup xs.reverse)
        exact h3 _ _ w' s' _ (.tup upd_same (h5.rev.mono s'))
      · cases h2
    · cases h2) fun _ _ _ _ _ _ z => z⟩
end
end Sm

set_option maxHeartbeats 4000000
namespace Sm
open PySem PySem.Spec PyProof.Rows L2 Lf

/-! ## how it runs: one step each -/
section
variable {ρ : Env} {S : Sto} {α : Type}
@[simp] theorem rbind_ok {α β : Type} {a : α} {S : Sto} {g : α → M β} : (R.ok a S).bind g = g a S := rfl
@[simp] theorem rbind_er {α β : Type} {e : Exn} {S : Sto} {g : α → M β} : (R.er e S : R α).bind g = .er e S := rfl
@[simp] theorem rbind_no {α β : Type} {g : α → M β} : (R.no : R α).bind g = .no := rfl
@[simp] theorem view_d {x : PyData} : view S (.d x) = some x := rfl
@[simp] theorem view_o {x : List PyData} : view S (.o x) = some (.list x) := rfl
@[simp] theorem lift_some {c : PyData} : lift (some c) S = .ok (.d c) S := rfl
@[simp] theorem e1_eq {f : Vl → M Vl} {a : Ex} : e1 f a ρ S = (a ρ S).bind f := rfl
@[simp] theorem e2_eq {f : Vl → Vl → M Vl} {a b : Ex} : e2 f a b ρ S = (a ρ S).bind fun x S1 => (b ρ S1).bind fun y => f x y := rfl
@[simp] theorem eK_eq {x : PyData} : eK x ρ S = .ok (.d x) S := rfl
@[simp] theorem asNil_eq : asNil ρ S = .ok [] S := rfl
@[simp] theorem asCons_eq {a : Ex} {r : Exs} : asCons a r ρ S = (a ρ S).bind fun x S1 => (r ρ S1).bind fun xs S2 => .ok (x :: xs) S2 := rfl
@[simp] theorem eArgs_eq {f : List Vl → M Vl} {r : Exs} : eArgs f r ρ S = (r ρ S).bind f := rfl
@[simp] theorem eTest_eq {a : Ex} : eTest a ρ S = (a ρ S).bind toB := rfl
@[simp] theorem eNotT_eq {a : Env → M Bool} : eNotT a ρ S = (a ρ S).bind fun b S1 => .ok (!b) S1 := rfl
@[simp] theorem toB_eq {b : Bool} : toB (.d (.bool b)) S = .ok b S := rfl
theorem eV_ok {i : Nat} {x : Vl} (h : ρ[i]? = some (some x)) : eV i ρ S = .ok x S := by unfold eV; rw [h]
@[simp] theorem lift1_d {f : PyData → Option PyData} {x : PyData} : lift1 f (.d x) S = lift (f x) S := rfl
@[simp] theorem lift1_o {f : PyData → Option PyData} {x : List PyData} : lift1 f (.o x) S = lift (f (.list x)) S := rfl
@[simp] theorem lift2_dd {f : PyData → PyData → Option PyData} {x y : PyData} : lift2 f (.d x) (.d y) S = lift (f x y) S := rfl
@[simp] theorem lift2_od {f : PyData → PyData → Option PyData} {x : List PyData} {y : PyData} : lift2 f (.o x) (.d y) S = lift (f (.list x) y) S := rfl
@[simp] theorem lift2_c0 {f : PyData → PyData → Option PyData} {x : List PyData} {y : PyData} {r : Sto} : lift2 f (.c 0) (.d y) (x :: r) = lift (f (.list x) y) (x :: r) := rfl
@[simp] theorem liftA_1 {f : List PyData → Option PyData} {x : PyData} : liftA f [.d x] S = lift (f [x]) S := rfl
@[simp] theorem liftA_1o {f : List PyData → Option PyData} {x : List PyData} : liftA f [.o x] S = lift (f [.list x]) S := rfl
@[simp] theorem liftA_2 {f : List PyData → Option PyData} {x y : PyData} : liftA f [.d x, .d y] S = lift (f [x, y]) S := rfl
@[simp] theorem intOp_ii {g : Int → Int → Option PyData} {i j : Int} : intOp g (.int i) (.int j) = g i j := rfl
@[simp] theorem addD_ii {i j : Int} : addD (.int i) (.int j) = some (.int (i + j)) := rfl
@[simp] theorem subD_ii {i j : Int} : subD (.int i) (.int j) = some (.int (i - j)) := rfl
@[simp] theorem mulD_ii {i j : Int} : mulD (.int i) (.int j) = mulI i j := rfl
@[simp] theorem divD_ii {i j : Int} : divD (.int i) (.int j) = divI i j := rfl
@[simp] theorem modD_ii {i j : Int} : modD (.int i) (.int j) = modI i j := rfl
@[simp] theorem gtF_ii {i j : Int} : gtF (.int i) (.int j) = some (.bool (decide (j < i))) := rfl
@[simp] theorem geF_ii {i j : Int} : geF (.int i) (.int j) = some (.bool (decide (j ≤ i))) := rfl
@[simp] theorem leF_ii {i j : Int} : leF (.int i) (.int j) = some (.bool (decide (i ≤ j))) := rfl
@[simp] theorem ltF_ii {i j : Int} : ltF (.int i) (.int j) = some (.bool (decide (i < j))) := rfl
@[simp] theorem fInt_i {i : Int} : fInt [.int i] = some (.int i) := rfl
@[simp] theorem sE_ok {x : Vl} {k : Vl → Sto → Option (Out × Env × Sto)} : sE (.ok x S) ρ k = k x S := rfl
@[simp] theorem sRet_eq {e : Ex} : sRet e ρ S = sE (e ρ S) ρ fun x S1 => some (.rt x, ρ, S1) := rfl
@[simp] theorem sSet_eq {i : Nat} {e : Ex} : sSet i e ρ S = sE (e ρ S) ρ fun x S1 => if notO x then some (.nx, ρ.set i (some x), S1) else none := rfl
@[simp] theorem sNil_eq : sNil ρ S = some (.nx, ρ, S) := rfl
@[simp] theorem notO_d {x : PyData} : notO (.d x) = true := rfl
@[simp] theorem notO_c {x : Nat} : notO (.c x) = true := rfl
theorem sSeq_nx {a b : Sx} {ρ1 : Env} {S1 : Sto} (h : a ρ S = some (.nx, ρ1, S1)) : sSeq a b ρ S = b ρ1 S1 := by unfold sSeq; rw [h]
theorem sSeq_rt {a b : Sx} {ρ1 : Env} {S1 : Sto} {x : Vl} (h : a ρ S = some (.rt x, ρ1, S1)) : sSeq a b ρ S = some (.rt x, ρ1, S1) := by unfold sSeq; rw [h]
theorem sIf_t {c : Env → M Bool} {a b : Sx} {S1 : Sto} (h : c ρ S = .ok true S1) : sIf c a b ρ S = a ρ S1 := by unfold sIf; rw [h]
theorem sIf_f {c : Env → M Bool} {a b : Sx} {S1 : Sto} (h : c ρ S = .ok false S1) : sIf c a b ρ S = b ρ S1 := by unfold sIf; rw [h]
end

theorem fn_rt {n : Nat} {b : Sx} {xs : List Vl} {S S' : Sto} {x y : Vl} {ρ0 : Env} (h0 : xs.all notO = true) (hr : xs.map some ++ List.replicate (n - xs.length) none = ρ0) (h : ∃ ρ1, b ρ0 S = some (.rt x, ρ1, S')) (hy : retV x = y) : runF n b xs S = .ok y S' := by
  subst hr hy
  obtain ⟨ρ1, h⟩ := h
  unfold runF
  rw [if_pos h0, h]
  rfl
theorem fn_nx {n : Nat} {b : Sx} {xs : List Vl} {S S' : Sto} {ρ0 : Env} (h0 : xs.all notO = true) (hr : xs.map some ++ List.replicate (n - xs.length) none = ρ0) (h : ∃ ρ1, b ρ0 S = some (.nx, ρ1, S')) : runF n b xs S = .ok (.d .none) S' := by
  subst hr
  obtain ⟨ρ1, h⟩ := h
  unfold runF
  rw [if_pos h0, h]
  rfl
theorem callF_ok {n : Nat} {F : Fn} {xs : List Vl} {S : Sto} {r : R Vl} (h0 : (xs.all notO && xs.length == n) = true) (h : F xs S = r) : callF n F xs S = r := by
  unfold callF
  rw [if_pos h0, h]
theorem sFor_ok {pt : Tg} {fi : Ix} {b : Sx} {ρ : Env} {S S1 : Sto} {ds : List PyData} {r : Option (Out × Env × Sto)} (h : fi ρ S = .ok ds S1) (h2 : loopS pt b ds ρ S1 = r) : sFor pt fi b ρ S = r := by
  unfold sFor
  rw [h]
  exact h2

/-! ## step by step -/
def Rts (b : Sx) (ρ : Env) (S : Sto) (x : Vl) (S' : Sto) : Prop := ∃ ρ1, b ρ S = some (.rt x, ρ1, S')
def Nxs (b : Sx) (ρ : Env) (S : Sto) (ρ' : Env) (S' : Sto) : Prop := b ρ S = some (.nx, ρ', S')
section
variable {a b : Sx} {ρ ρ1 ρ2 : Env} {S S1 S2 : Sto} {x y : Vl} {e : Ex} {c : Env → M Bool} {i : Nat}
theorem Rts.nx (h : Nxs a ρ S ρ1 S1) (k : Rts b ρ1 S1 x S2) : Rts (sSeq a b) ρ S x S2 := by
  obtain ⟨ρ2, k⟩ := k
  exact ⟨ρ2, by rw [sSeq_nx h]; exact k⟩
theorem Rts.stop (k : Rts a ρ S x S2) : Rts (sSeq a b) ρ S x S2 := by
  obtain ⟨ρ2, k⟩ := k
  exact ⟨ρ2, sSeq_rt k⟩
theorem Rts.ret (h : e ρ S = .ok x S1) : Rts (sRet e) ρ S x S1 := ⟨ρ, by rw [sRet_eq, h]; rfl⟩
theorem Rts.ifT (h : c ρ S = .ok true S1) (k : Rts a ρ S1 x S2) : Rts (sIf c a b) ρ S x S2 := by
  obtain ⟨ρ2, k⟩ := k
  exact ⟨ρ2, by rw [sIf_t h]; exact k⟩
theorem Rts.ifF (h : c ρ S = .ok false S1) (k : Rts b ρ S1 x S2) : Rts (sIf c a b) ρ S x S2 := by
  obtain ⟨ρ2, k⟩ := k
  exact ⟨ρ2, by rw [sIf_f h]; exact k⟩
theorem Nxs.seq (h : Nxs a ρ S ρ1 S1) (k : Nxs b ρ1 S1 ρ2 S2) : Nxs (sSeq a b) ρ S ρ2 S2 := (sSeq_nx h).trans k
theorem Nxs.ifT (h : c ρ S = .ok true S1) (k : Nxs a ρ S1 ρ2 S2) : Nxs (sIf c a b) ρ S ρ2 S2 := (sIf_t h).trans k
theorem Nxs.ifF (h : c ρ S = .ok false S1) (k : Nxs b ρ S1 ρ2 S2) : Nxs (sIf c a b) ρ S ρ2 S2 := (sIf_f h).trans k
theorem Nxs.set {d : PyData} (h : e ρ S = .ok (.d d) S1) : Nxs (sSet i e) ρ S (ρ.set i (some (.d d))) S1 := by
  show sSet i e ρ S = _
  rw [sSet_eq, h]
  rfl
theorem Nxs.nil : Nxs sNil ρ S ρ S := rfl
theorem Nxs.expr (h : e ρ S = .ok x S1) : Nxs (sExpr e) ρ S ρ S1 := by
  show sExpr e ρ S = _
  unfold sExpr
  rw [h]
  rfl
theorem Nxs.asgn {pt : Tg} {d : PyData} (h : e ρ S = .ok (.d d) S1) (k : asg pt d ρ = some ρ1) : Nxs (sAsg pt e) ρ S ρ1 S1 := by
  show sAsg pt e ρ S = _
  unfold sAsg
  rw [h]
  show (match asg pt d ρ with
    | some ρ' => some (Out.nx, ρ', S1)
    | none => none) = _
  rw [k]
theorem Nxs.par {j : Nat} {f : Ex} {d d' : PyData} (h : e ρ S = .ok (.d d) S1) (k : f ρ S1 = .ok (.d d') S2) : Nxs (sPar i j e f) ρ S ((ρ.set i (some (.d d))).set j (some (.d d'))) S2 := by
  show sPar i j e f ρ S = _
  unfold sPar
  rw [h]
  show sE (f ρ S1) ρ _ = _
  rw [k]
  rfl
theorem Nxs.for_ {pt : Tg} {fi : Ix} {ds : List PyData} (h : fi ρ S = .ok ds S1) (k : loopS pt b ds ρ S1 = some (.nx, ρ1, S2)) : Nxs (sFor pt fi b) ρ S ρ1 S2 := sFor_ok h k
theorem loop_nil {pt : Tg} : loopS pt b [] ρ S = some (.nx, ρ, S) := rfl
theorem loop_cons {pt : Tg} {d : PyData} {ds : List PyData} {r : Option (Out × Env × Sto)} (h : asg pt d ρ = some ρ1) (k : Nxs b ρ1 S ρ2 S1) (l : loopS pt b ds ρ2 S1 = r) : loopS pt b (d :: ds) ρ S = r := by
  unfold loopS
  rw [h]
  show (match b ρ1 S with
      | some (.nx, ρ2, S2) => loopS pt b ds ρ2 S2
      | some (.ct, ρ2, S2) => loopS pt b ds ρ2 S2
      | some (.bk, ρ2, S2) => some (.nx, ρ2, S2)
      | some r => some r
      | none => none) = r
  rw [k]
  exact l
theorem fn_rts {n : Nat} {xs : List Vl} {S' : Sto} {ρ0 : Env} (h0 : xs.all notO = true) (hr : xs.map some ++ List.replicate (n - xs.length) none = ρ0) (h : Rts b ρ0 S x S') (hy : retV x = y) : runF n b xs S = .ok y S' := fn_rt h0 hr h hy
/-! expressions -/
theorem ev_2 {f : PyData → PyData → Option PyData} {e' : Ex} {p q r : PyData} (h : e ρ S = .ok (.d p) S1) (k : e' ρ S1 = .ok (.d q) S2) (hf : f p q = some r) : e2 (lift2 f) e e' ρ S = .ok (.d r) S2 := by
  rw [e2_eq, h, rbind_ok, k, rbind_ok, lift2_dd, hf]
  rfl
theorem ev_1 {f : PyData → Option PyData} {p r : PyData} (h : e ρ S = .ok (.d p) S1) (hf : f p = some r) : e1 (lift1 f) e ρ S = .ok (.d r) S1 := by
  rw [e1_eq, h, rbind_ok, lift1_d, hf]
  rfl
theorem ev_A1 {f : List PyData → Option PyData} {p r : PyData} (h : e ρ S = .ok (.d p) S1) (hf : f [p] = some r) : eArgs (liftA f) (asCons e asNil) ρ S = .ok (.d r) S1 := by
  rw [eArgs_eq, asCons_eq, h, rbind_ok, asNil_eq, rbind_ok, rbind_ok, liftA_1, hf]
  rfl
theorem ev_A2 {f : List PyData → Option PyData} {e' : Ex} {p q r : PyData} (h : e ρ S = .ok (.d p) S1) (k : e' ρ S1 = .ok (.d q) S2) (hf : f [p, q] = some r) : eArgs (liftA f) (asCons e (asCons e' asNil)) ρ S = .ok (.d r) S2 := by
  rw [eArgs_eq, asCons_eq, h, rbind_ok, asCons_eq, k, rbind_ok, asNil_eq, rbind_ok, rbind_ok, rbind_ok, liftA_2, hf]
  rfl
theorem ev_c1 {F : Fn} {S3 : Sto} {r : Vl} (h : e ρ S = .ok x S1) (hn : notO x = true) (k : F [x] S1 = .ok r S3) : eArgs (callF 1 F) (asCons e asNil) ρ S = .ok r S3 := by
  rw [eArgs_eq, asCons_eq, h, rbind_ok, asNil_eq, rbind_ok, rbind_ok]
  exact callF_ok (by simp [hn]) k
theorem ev_c2 {F : Fn} {e' : Ex} {S3 : Sto} {r : Vl} (h : e ρ S = .ok x S1) (h' : e' ρ S1 = .ok y S2) (hn : notO x = true) (hn' : notO y = true) (k : F [x, y] S2 = .ok r S3) : eArgs (callF 2 F) (asCons e (asCons e' asNil)) ρ S = .ok r S3 := by
  rw [eArgs_eq, asCons_eq, h, rbind_ok, asCons_eq, h', rbind_ok, asNil_eq, rbind_ok, rbind_ok, rbind_ok]
  exact callF_ok (by simp [hn, hn']) k
theorem ev_c3 {F : Fn} {e' e'' : Ex} {S3 S4 : Sto} {r z : Vl} (h : e ρ S = .ok x S1) (h' : e' ρ S1 = .ok y S2) (h'' : e'' ρ S2 = .ok z S3) (hn : notO x = true) (hn' : notO y = true) (hn'' : notO z = true) (k : F [x, y, z] S3 = .ok r S4) : eArgs (callF 3 F) (asCons e (asCons e' (asCons e'' asNil))) ρ S = .ok r S4 := by
  rw [eArgs_eq, asCons_eq, h, rbind_ok, asCons_eq, h', rbind_ok, asCons_eq, h'', rbind_ok, asNil_eq, rbind_ok, rbind_ok, rbind_ok, rbind_ok]
  exact callF_ok (by simp [hn, hn', hn'']) k
theorem ev_test {t : Bool} (h : e ρ S = .ok (.d (.bool t)) S1) : eTest e ρ S = .ok t S1 := by
  rw [eTest_eq, h]
  rfl
theorem ev_notT {t : Bool} (h : c ρ S = .ok t S1) : eNotT c ρ S = .ok (!t) S1 := by
  rw [eNotT_eq, h]
  rfl
theorem ev_orF {c' : Env → M Bool} {t : Bool} (h : c ρ S = .ok false S1) (k : c' ρ S1 = .ok t S2) : eOrT c c' ρ S = .ok t S2 := by
  show (c ρ S).bind _ = _
  rw [h]
  exact k
theorem ev_andF {c' : Env → M Bool} (h : c ρ S = .ok false S1) : eAndT c c' ρ S = .ok false S1 := by
  show (c ρ S).bind _ = _
  rw [h]
  rfl
theorem ev_andT {c' : Env → M Bool} {t : Bool} (h : c ρ S = .ok true S1) (k : c' ρ S1 = .ok t S2) : eAndT c c' ρ S = .ok t S2 := by
  show (c ρ S).bind _ = _
  rw [h]
  exact k
theorem ev_t2 {e' : Ex} {p q : PyData} (h : e ρ S = .ok (.d p) S1) (k : e' ρ S1 = .ok (.d q) S2) : eArgs mkTup (asCons e (asCons e' asNil)) ρ S = .ok (.d (.tuple [p, q])) S2 := by
  rw [eArgs_eq, asCons_eq, h, rbind_ok, asCons_eq, k, rbind_ok, asNil_eq, rbind_ok, rbind_ok, rbind_ok]
  rfl
theorem ev_chain {f g : PyData → PyData → Option PyData} {e' e'' : Ex} {p q r z : PyData} {S3 : Sto} (h : e ρ S = .ok (.d p) S1) (h' : e' ρ S1 = .ok (.d q) S2) (hf : f p q = some (.bool true)) (h'' : e'' ρ S2 = .ok (.d r) S3) (hg : g q r = some z) : eChain f g e e' e'' ρ S = .ok (.d z) S3 := by
  unfold eChain
  rw [h, rbind_ok, h', rbind_ok, lift2_dd, hf]
  show ((e'' ρ S2).bind _) = _
  rw [h'', rbind_ok, lift2_dd, hg]
  rfl
theorem ev_chainF {f g : PyData → PyData → Option PyData} {e' e'' : Ex} {p q : PyData} (h : e ρ S = .ok (.d p) S1) (h' : e' ρ S1 = .ok (.d q) S2) (hf : f p q = some (.bool false)) : eChain f g e e' e'' ρ S = .ok (.d (.bool false)) S2 := by
  unfold eChain
  rw [h, rbind_ok, h', rbind_ok, lift2_dd, hf]
  rfl
end

/-! ## drawing -/
def UrnOk (n : Nat) (S : Sto) : Prop := ∃ a b c : Int, S = [[.int a, .int b, .int c]] ∧ 0 ≤ a ∧ 0 ≤ b ∧ b < 2 ^ 62 ∧ 0 ≤ c ∧ c + n ≤ 1000000
theorem UrnOk.le {n m : Nat} {S : Sto} (h : UrnOk n S) (e : m ≤ n) : UrnOk m S := by
  obtain ⟨a, b, c, h1, h2, h3, h4, h5, h6⟩ := h
  exact ⟨a, b, c, h1, h2, h3, h4, h5, by omega⟩
def takeB : Sx := (sSeq (sIf (eTest (e2 (lift2 gtF) (e2 (lift2 ixLT) (eV 0) (eK (.int 0))) (eK (.int 0)))) (sSeq (sSet 2 (e2 (lift2 modD) (eArgs (liftA fInt) (asCons (e2 (lift2 ixLT) (eV 0) (eK (.int 0))) asNil)) (eV 1)))
    (sSeq (sPut 0 (eK (.int 0)) (e2 (lift2 divD) (e2 (lift2 ixLT) (eV 0) (eK (.int 0))) (eV 1)))
    (sRet (eV 2)))) sNil)
    (sSeq (sPut 0 (eK (.int 2)) (e2 (lift2 addD) (e2 (lift2 ixLT) (eV 0) (eK (.int 2))) (eK (.int 1))))
    (sSeq (sSet 3 (e2 (lift2 modD) (eArgs (liftA fInt) (asCons (e2 (lift2 mulD) (e2 (lift2 addD) (e2 (lift2 ixLT) (eV 0) (eK (.int 1))) (e2 (lift2 mulD) (eK (.int 48271)) (e2 (lift2 ixLT) (eV 0) (eK (.int 2))))) (e2 (lift2 addD) (eK (.int 39373)) (e2 (lift2 ixLT) (eV 0) (eK (.int 2))))) asNil)) (eK (.int 2147483647))))
    (sSeq (sSet 4 (e2 (lift2 addD) (e2 (lift2 modD) (eArgs (liftA fInt) (asCons (eV 3) asNil)) (eK (.int 40009))) (eK (.int 7))))
    (sSeq (sSet 5 (e2 (lift2 modD) (eArgs (liftA fInt) (asCons (e2 (lift2 mulD) (e2 (lift2 addD) (e2 (lift2 addD) (eV 3) (e2 (lift2 ixLT) (eV 0) (eK (.int 2)))) (e2 (lift2 divD) (e2 (lift2 ixLT) (eV 0) (eK (.int 1))) (eK (.int 1000003)))) (eV 4)) asNil)) (eK (.int 2147483629))))
    (sRet (e2 (lift2 modD) (eArgs (liftA fInt) (asCons (e2 (lift2 divD) (e2 (lift2 modD) (eArgs (liftA fInt) (asCons (e2 (lift2 addD) (e2 (lift2 mulD) (eV 5) (eK (.int 48271))) (eV 3)) asNil)) (eK (.int 2147483587))) (eK (.int 64))) asNil)) (eV 1))))))))
def takeF : Fn := runF 6 takeB
theorem smallI_of {i : Int} (h : i.natAbs < 2 ^ 4000) : smallI i = true := decide_eq_true h
theorem smallI_lt {i : Int} (h0 : 0 ≤ i) (h : i < 2 ^ 70) : smallI i = true := by
  refine smallI_of ?_
  have : i.natAbs < 2 ^ 70 := by omega
  exact Nat.lt_trans this (by decide +kernel)
theorem mulI_ok {i j : Int} (h1 : smallI i = true) (h2 : smallI j = true) : mulI i j = some (.int (i * j)) := by unfold mulI; rw [h1, h2]; rfl
theorem divI_ok {i j : Int} (h1 : 0 < j) (h2 : smallI j = true) : divI i j = some (.int (i / j)) := by unfold divI; rw [h2, decide_eq_true h1]; rfl
theorem modI_ok {i j : Int} (h1 : 0 < j) : modI i j = some (.int (i % j)) := by unfold modI; rw [if_pos h1]
theorem take_ok {n : Nat} {S : Sto} {low : Int} (u : UrnOk (n + 1) S) (h1 : 1 ≤ low) (hs : smallI low = true) : ∃ r S', takeF [.c 0, .d (.int low)] S = .ok (.d (.int r)) S' ∧ 0 ≤ r ∧ r < low ∧ UrnOk n S' := by
  obtain ⟨a, b, c, rfl, ha, hb, hb2, hc, hn⟩ := u
  have i0 : ∀ x y z : Int, ixLT (.list [.int x, .int y, .int z]) (.int 0) = some (.int x) := fun _ _ _ => rfl
  have i1 : ∀ x y z : Int, ixLT (.list [.int x, .int y, .int z]) (.int 1) = some (.int y) := fun _ _ _ => rfl
  have i2 : ∀ x y z : Int, ixLT (.list [.int x, .int y, .int z]) (.int 2) = some (.int z) := fun _ _ _ => rfl
  by_cases h : 0 < a
  · refine ⟨a % low, [[.int (a / low), .int b, .int c]], ?_, Int.emod_nonneg _ (by omega), Int.emod_lt_of_pos _ (by omega), _, _, _, rfl, Int.ediv_nonneg ha (by omega), hb, hb2, hc, by omega⟩
    have e1 : modI a low = some (.int (a % low)) := modI_ok (by omega)
    have e2 : divI a low = some (.int (a / low)) := divI_ok (by omega) hs
    simp [takeF, runF, takeB, sSeq, sIf, eV, sPut, putV, i0, i1, i2, h, e1, e2, outR, retV, ixN]
  · have ha0 : a = 0 := by omega
    subst ha0
    have c1 : (0 : Int) ≤ c + 1 := by omega
    have p1 : smallI (48271 : Int) = true := by decide +kernel
    have p2 : smallI (c + 1) = true := smallI_lt (by omega) (by omega)
    have p3 : smallI (b + 48271 * (c + 1)) = true := smallI_lt (by omega) (by omega)
    have p4 : smallI (39373 + (c + 1)) = true := smallI_lt (by omega) (by omega)
    have m1 := mulI_ok p1 p2
    have m2 := mulI_ok p3 p4
    generalize hx : (b + 48271 * (c + 1)) * (39373 + (c + 1)) = x at m2
    have o0 := Int.emod_nonneg x (b := 2147483647) (by decide)
    have o1 := Int.emod_lt_of_pos x (b := 2147483647) (by decide)
    generalize hy : x % 2147483647 = y at o0 o1
    have d1 : modI x 2147483647 = some (.int y) := by rw [modI_ok (by decide), hy]
    have f0 := Int.emod_nonneg y (b := 40009) (by decide)
    have f1 := Int.emod_lt_of_pos y (b := 40009) (by decide)
    have d2 : modI y 40009 = some (.int (y % 40009)) := modI_ok (by decide)
    generalize hf : y % 40009 = far at f0 f1 d2
    have d3 : divI b 1000003 = some (.int (b / 1000003)) := divI_ok (by decide) (by decide +kernel)
    have b0 : 0 ≤ b / 1000003 := Int.ediv_nonneg hb (by decide)
    have b1 : b / 1000003 ≤ b := Int.ediv_le_self _ hb
    generalize hq : b / 1000003 = q at b0 b1 d3
    have m3 : mulI (y + (c + 1) + q) (far + 7) = some (.int ((y + (c + 1) + q) * (far + 7))) := mulI_ok (smallI_lt (by omega) (by omega)) (smallI_lt (by omega) (by omega))
    generalize hz : (y + (c + 1) + q) * (far + 7) = z at m3
    have t0 := Int.emod_nonneg z (b := 2147483629) (by decide)
    have t1 := Int.emod_lt_of_pos z (b := 2147483629) (by decide)
    have d4 : modI z 2147483629 = some (.int (z % 2147483629)) := modI_ok (by decide)
    generalize ht : z % 2147483629 = t at t0 t1 d4
    have m4 : mulI t 48271 = some (.int (t * 48271)) := mulI_ok (smallI_lt (by omega) (by omega)) p1
    have d5 : modI (t * 48271 + y) 2147483587 = some (.int ((t * 48271 + y) % 2147483587)) := modI_ok (by decide)
    generalize hv : (t * 48271 + y) % 2147483587 = v at d5
    have d6 : divI v 64 = some (.int (v / 64)) := divI_ok (by decide) (by decide +kernel)
    have d7 : modI (v / 64) low = some (.int (v / 64 % low)) := modI_ok (by omega)
    refine ⟨v / 64 % low, [[.int 0, .int b, .int (c + 1)]], ?_, Int.emod_nonneg _ (by omega), Int.emod_lt_of_pos _ (by omega), _, _, _, rfl, Int.le_refl _, hb, hb2, c1, by omega⟩
    simp [takeF, runF, takeB, sSeq, sIf, eV, sPut, putV, i0, i1, i2, m1, m2, d1, d2, d3, m3, d4, m4, d5, d6, d7, outR, retV, ixN]
end Sm

namespace Sm
open PySem PySem.Spec PyProof.Rows L2 Lf
def bg_ascending : Sx := (sRet (eArgs (liftA fTuple) (asCons (e1 (lift1 ssF) (eV 0)) asNil)))
def fg_ascending : Fn := runF 1 bg_ascending
def bg_islands_in : Sx := (sRet (e2 (lift2 addD) (eK (.int 1)) (eArgs (liftA fSum) (asCons (eComp (.t [(.n 1), (.n 2)]) (iSq (eV 0)) yesT (eV 1) [1, 2]) asNil))))
def fg_islands_in : Fn := runF 3 bg_islands_in
def bg_check_numbers : Sx := (sFor (.n 2) (iSq (eV 1)) (sIf (eNotT (eTest (eChain leF ltF (eK (.int 0)) (eV 2) (eArgs (callF 1 fg_islands_in) (asCons (eV 0) asNil))))) sStuck sNil))
def fg_check_numbers : Fn := runF 3 bg_check_numbers
def bg_runs : Sx := (sSeq (sOwn 1 asNil)
    (sSeq (sSet 2 (eK (.int 0)))
    (sSeq (sFor (.t [(.n 3), (.n 4)]) (iSq (eV 0)) (sSeq (sApp 1 (eArgs mkTup (asCons (eV 2) (asCons (e2 (lift2 addD) (eV 2) (eV 3)) (asCons (eV 4) asNil)))))
    (sSet 2 (e2 (lift2 addD) (eV 2) (eV 3)))))
    (sRet (eV 1)))))
def fg_runs : Fn := runF 5 bg_runs
def bg_last_height : Sx := (sSeq (sExpr (eArgs (callF 2 fg_check_numbers) (asCons (eV 0) (asCons (eArgs mkTup (asCons (eV 1) (asCons (eV 2) asNil))) asNil))))
    (sSeq (sIf (eTest (e2 (lift2 eqF) (eV 1) (eV 2))) (sRet (eK .none)) sNil)
    (sSeq (sAsg (.t [(.n 3), (.n 4)]) (eArgs mkTup (asCons (eArgs (liftA fMin) (asCons (eV 1) (asCons (eV 2) asNil))) (asCons (eArgs (liftA fMax) (asCons (eV 1) (asCons (eV 2) asNil))) asNil))))
    (sRet (eArgs (liftA fMin) (asCons (eComp (.t [(.n 5), (.n 6), (.n 7)]) (iSq (eArgs (callF 1 fg_runs) (asCons (eV 0) asNil))) (eAndT (eTest (e2 (lift2 ltF) (eV 5) (eV 4))) (eTest (e2 (lift2 ltF) (eV 3) (eV 6)))) (eV 7) [5, 6, 7]) asNil))))))
def fg_last_height : Fn := runF 8 bg_last_height
def bg_lots_at : Sx := (sRet (e2 (lift2 addD) (eK (.int 1)) (eArgs (liftA fSum) (asCons (eComp (.t [(.n 2), (.n 3)]) (iSq (eV 0)) (eTest (e2 (lift2 leF) (eV 3) (eV 1))) (eV 2) [2, 3]) asNil))))
def fg_lots_at : Fn := runF 4 bg_lots_at
def bg_lot_at : Sx := (sSeq (sExpr (eArgs (callF 2 fg_check_numbers) (asCons (eV 0) (asCons (eArgs mkTup (asCons (eV 1) asNil)) asNil))))
    (sSeq (sSet 3 (eComp (.t [(.n 4), (.n 5), (.n 6)]) (iSq (eArgs (callF 1 fg_runs) (asCons (eV 0) asNil))) (eTest (e2 (lift2 leF) (eV 6) (eV 2))) (eArgs mkTup (asCons (eV 4) (asCons (eV 5) asNil))) [4, 5, 6]))
    (sSeq (sSet 7 (eComp (.t [(.n 4), (.n 5)]) (iSq (eV 3)) (eTest (e2 (lift2 ltF) (eV 4) (eV 1))) (eArgs (liftA fMin) (asCons (eV 1) (asCons (eV 5) asNil))) [4, 5]))
    (sSeq (sSet 8 (eComp (.t [(.n 4), (.n 5)]) (iSq (eV 3)) (eTest (e2 (lift2 ltF) (eV 1) (eV 5))) (eArgs (liftA fMax) (asCons (eV 1) (asCons (eV 4) asNil))) [4, 5]))
    (sRet (eArgs mkTup (asCons (eArgs (liftA fMax) (asCons (eArgs mkLst (asCons (eK (.int 0)) (asStar (eV 7) asNil))) asNil)) (asCons (eArgs (liftA fMin) (asCons (eArgs mkLst (asCons (e2 (lift2 subD) (eArgs (callF 1 fg_islands_in) (asCons (eV 0) asNil)) (eK (.int 1))) (asStar (eV 8) asNil))) asNil)) asNil))))))))
def fg_lot_at : Fn := runF 9 bg_lot_at
def bg_great_lots : Sx := (sSeq (sOwn 2 (asCons (eK (.int 1)) asNil))
    (sSeq (sFor (.t [(.n 3), (.n 4)]) (iSq (eV 0)) (sIf (eTest (e2 (lift2 gtF) (eV 4) (eV 1))) (sPut 2 (e1 (lift1 negF) (eK (.int 1))) (e2 (lift2 addD) (e2 (lift2 ixLT) (eV 2) (e1 (lift1 negF) (eK (.int 1)))) (eV 3))) (sApp 2 (eK (.int 1)))))
    (sRet (eV 2))))
def fg_great_lots : Fn := runF 5 bg_great_lots
def bg_greatest_lot : Sx := (sRet (eArgs (liftA fMax) (asCons (eArgs (callF 2 fg_great_lots) (asCons (eV 0) (asCons (eV 1) asNil))) asNil)))
def fg_greatest_lot : Fn := runF 2 bg_greatest_lot
def bg_how_many_joined : Sx := (sRet (eArgs (liftA fSum) (asCons (eComp (.n 2) (iSq (eArgs (callF 2 fg_great_lots) (asCons (eV 0) (asCons (eV 1) asNil)))) yesT (e2 (lift2 divD) (e2 (lift2 mulD) (eV 2) (e2 (lift2 subD) (eV 2) (eK (.int 1)))) (eK (.int 2))) [2]) asNil)))
def fg_how_many_joined : Fn := runF 3 bg_how_many_joined
def bg_waters_of : Sx := (sRet (eArgs (callF 1 fg_ascending) (asCons (eComp (.t [(.n 1), (.n 2)]) (iSq (eV 0)) yesT (eV 2) [1, 2]) asNil)))
def fg_waters_of : Fn := runF 3 bg_waters_of
def bg_keeps : Sx := (sRet (e2 (lift2 leF) (eArgs (callF 3 fg_last_height) (asCons (eV 0) (asCons (e2 (lift2 ixLT) (eV 1) (eK (.int 0))) (asCons (e2 (lift2 ixLT) (eV 1) (eK (.int 1))) asNil)))) (eArgs (callF 3 fg_last_height) (asCons (eV 0) (asCons (e2 (lift2 ixLT) (eV 2) (eK (.int 0))) (asCons (e2 (lift2 ixLT) (eV 2) (eK (.int 1))) asNil))))))
def fg_keeps : Fn := runF 3 bg_keeps
def bg_least_water : Sx := (sSeq (sSet 2 (eArgs (callF 1 fg_ascending) (asCons (eArgs mkLst (asCons (eK (.int 0)) (asStar (eComp (.t [(.n 3), (.n 4)]) (iSq (eV 0)) yesT (eV 4) [3, 4]) asNil))) asNil)))
    (sRet (e1 (lift1 fMinD) (eComp (.n 5) (iSq (eV 2)) (eTest (e2 (lift2 geF) (eArgs (callF 2 fg_lots_at) (asCons (eV 0) (asCons (eV 5) asNil))) (eV 1))) (eV 5) [5]))))
def fg_least_water : Fn := runF 6 bg_least_water
end Sm

set_option maxHeartbeats 4000000
namespace Sm
open PySem PySem.Spec PyProof.Rows L2 Lf

/-! ## comprehensions that draw nothing -/
theorem cL_of {β : Type} {pt : Tg} {tt : Env → M Bool} {elt : Ex} {vs : List Nat} {ρ : Env} {S : Sto} (enc : β → PyData) (t : β → Bool) (g : β → PyData) : ∀ (xs : List β),
    (∀ x ∈ xs, ∃ ρ1, asg pt (enc x) (wipeE ρ vs) = some ρ1 ∧ tt ρ1 S = .ok (t x) S ∧ (t x = true → elt ρ1 S = .ok (.d (g x)) S)) → cL pt tt elt vs ρ (xs.map enc) S = .ok ((xs.filter t).map g) S
  | [], _ => rfl
  | x :: xs, h => by
    obtain ⟨ρ1, h1, h2, h3⟩ := h x List.mem_cons_self
    have ih := cL_of enc t g xs fun y hy => h y (List.mem_cons_of_mem _ hy)
    rw [List.map_cons]
    unfold cL
    rw [h1]
    dsimp only
    rw [h2]
    cases ht : t x with
    | true =>
      rw [List.filter_cons, if_pos ht]
      dsimp only
      rw [h3 ht]
      dsimp only
      rw [ih]
      rfl
    | false =>
      rw [List.filter_cons, if_neg (by rw [ht]; exact Bool.false_ne_true)]
      exact ih
theorem eComp_of {β : Type} {pt : Tg} {fi : Ix} {tt : Env → M Bool} {elt : Ex} {vs : List Nat} {ρ : Env} {S : Sto} (enc : β → PyData) (t : β → Bool) (g : β → PyData) (xs : List β) (hi : fi ρ S = .ok (xs.map enc) S) (hl : xs.length ≤ big)
    (h : ∀ x ∈ xs, ∃ ρ1, asg pt (enc x) (wipeE ρ vs) = some ρ1 ∧ tt ρ1 S = .ok (t x) S ∧ (t x = true → elt ρ1 S = .ok (.d (g x)) S)) : eComp pt fi tt elt vs ρ S = .ok (.d (.list ((xs.filter t).map g))) S := by
  unfold eComp
  rw [hi]
  show lim (cL pt tt elt vs ρ (xs.map enc) S) = _
  rw [cL_of enc t g xs h]
  unfold lim
  dsimp only
  rw [if_pos (by rw [List.length_map]; exact Nat.le_trans (List.length_filter_le _ _) hl)]
theorem filter_yes {β : Type} (xs : List β) : xs.filter (fun _ => true) = xs := List.filter_eq_self.mpr fun _ _ => rfl

/-! ## rows -/
abbrev Row := List (Int × Int)
def runD (r : Int × Int) : PyData := .tuple [.int r.1, .int r.2]
def rowD (rs : Row) : PyData := .tuple (rs.map runD)
def tot (rs : Row) : Int := (rs.map (·.1)).sum
structure RowOk (rs : Row) : Prop where
  pos : ∀ r ∈ rs, 1 ≤ r.1 ∧ 0 ≤ r.2
  len : rs.length ≤ 20
/-- first, last, height -/
def runsL : Int → Row → List (Int × Int × Int)
  | _, [] => []
  | o, r :: rs => (o, o + r.1, r.2) :: runsL (o + r.1) rs
def triD (t : Int × Int × Int) : PyData := .tuple [.int t.1, .int t.2.1, .int t.2.2]
def lotsAt (rs : Row) (w : Int) : Int := 1 + ((rs.filter fun r => decide (r.2 ≤ w)).map (·.1)).sum
theorem small20 {n : Nat} (h : n ≤ 20) : n ≤ big := Nat.le_trans h (by decide)
theorem asInts_ok (ns : List Int) : asInts (ns.map PyData.int) = some ns := asInts_map ns
theorem fSum_ok (ns : List Int) : fSum [.list (ns.map PyData.int)] = some (.int ns.sum) := by
  unfold fSum
  dsimp only
  rw [asInts_map]
theorem map_int {β : Type} (f : β → Int) (xs : List β) : xs.map (fun x => PyData.int (f x)) = (xs.map f).map PyData.int := by rw [List.map_map]; rfl
theorem islands_ok {rs : Row} (h : RowOk rs) (S : Sto) : fg_islands_in [.d (rowD rs)] S = .ok (.d (.int (1 + tot rs))) S := by
  have e := eComp_of (pt := .t [(.n 1), (.n 2)]) (fi := iSq (eV 0)) (tt := yesT) (elt := eV 1) (vs := [1, 2]) (ρ := [some (.d (rowD rs)), none, none]) (S := S) runD (fun _ => true) (fun r => .int r.1) rs rfl (small20 h.len) fun r _ => ⟨_, rfl, rfl, fun _ => rfl⟩
  rw [filter_yes, map_int] at e
  have e' : bg_islands_in [some (.d (rowD rs)), none, none] S = some (.rt (.d (.int (1 + tot rs))), [some (.d (rowD rs)), none, none], S) := by
    simp only [bg_islands_in, sRet_eq, e2_eq, eArgs_eq, asCons_eq, asNil_eq, eK_eq, e, rbind_ok, liftA_1, fSum_ok, lift_some, lift2_dd, addD_ii, sE_ok]
    rfl
  exact fn_rt rfl rfl ⟨_, e'⟩ rfl
theorem lots_ok {rs : Row} (h : RowOk rs) (w : Int) (S : Sto) : fg_lots_at [.d (rowD rs), .d (.int w)] S = .ok (.d (.int (lotsAt rs w))) S := by
  have e := eComp_of (pt := .t [(.n 2), (.n 3)]) (fi := iSq (eV 0)) (tt := eTest (e2 (lift2 leF) (eV 3) (eV 1))) (elt := eV 2) (vs := [2, 3]) (ρ := [some (.d (rowD rs)), some (.d (.int w)), none, none]) (S := S) runD (fun r => decide (r.2 ≤ w)) (fun r => .int r.1) rs rfl (small20 h.len) fun r _ => ⟨_, rfl, rfl, fun _ => rfl⟩
  rw [map_int] at e
  have e' : bg_lots_at [some (.d (rowD rs)), some (.d (.int w)), none, none] S = some (.rt (.d (.int (lotsAt rs w))), [some (.d (rowD rs)), some (.d (.int w)), none, none], S) := by
    simp only [bg_lots_at, sRet_eq, e2_eq, eArgs_eq, asCons_eq, asNil_eq, eK_eq, e, rbind_ok, liftA_1, fSum_ok, lift_some, lift2_dd, addD_ii, sE_ok]
    rfl
  exact fn_rt rfl rfl ⟨_, e'⟩ rfl
def runsB : Sx := (sSeq (sApp 1 (eArgs mkTup (asCons (eV 2) (asCons (e2 (lift2 addD) (eV 2) (eV 3)) (asCons (eV 4) asNil)))))
    (sSet 2 (e2 (lift2 addD) (eV 2) (eV 3))))
theorem runs_loop (S : Sto) (d : PyData) : ∀ (rs : Row) (o : Int) (acc : List PyData) (x y : Option Vl), acc.length + rs.length ≤ big → ∃ x' y' o', loopS (.t [(.n 3), (.n 4)]) runsB (rs.map runD) [some (.d d), some (.o acc), some (.d (.int o)), x, y] S = some (.nx, [some (.d d), some (.o (acc ++ (runsL o rs).map triD)), some (.d (.int o')), x', y'], S)
  | [], o, acc, x, y, _ => ⟨x, y, o, by simp [loopS, runsL]⟩
  | r :: rs, o, acc, x, y, hl => by
    rw [List.length_cons] at hl
    obtain ⟨x', y', o', ih⟩ := runs_loop S d rs (o + r.1) (acc ++ [triD (o, o + r.1, r.2)]) (some (.d (.int r.1))) (some (.d (.int r.2))) (by rw [List.length_append, List.length_singleton]; omega)
    refine ⟨x', y', o', ?_⟩
    have e : runsB [some (.d d), some (.o acc), some (.d (.int o)), some (.d (.int r.1)), some (.d (.int r.2))] S = some (.nx, [some (.d d), some (.o (acc ++ [triD (o, o + r.1, r.2)])), some (.d (.int (o + r.1))), some (.d (.int r.1)), some (.d (.int r.2))], S) := by
      simp [runsB, sSeq, sApp, eV, mkTup, datas, triD, show acc.length ≤ big by omega, show (3 : Nat) ≤ big by decide]
    rw [List.map_cons]
    unfold loopS
    rw [show asg (.t [(.n 3), (.n 4)]) (runD r) [some (.d d), some (.o acc), some (.d (.int o)), x, y] = some [some (.d d), some (.o acc), some (.d (.int o)), some (.d (.int r.1)), some (.d (.int r.2))] from rfl]
    dsimp only
    rw [e]
    dsimp only
    rw [ih, List.append_assoc]
    rfl
theorem runs_ok {rs : Row} (h : RowOk rs) (S : Sto) : fg_runs [.d (rowD rs)] S = .ok (.d (.list ((runsL 0 rs).map triD))) S := by
  obtain ⟨x', y', o', e⟩ := runs_loop S (rowD rs) rs 0 [] none none (by simpa using small20 h.len)
  exact fn_rts (x := .o ((runsL 0 rs).map triD)) rfl rfl (.nx (ρ1 := [some (.d (rowD rs)), some (.o []), none, none, none]) (S1 := S) rfl (.nx (.set rfl) (.nx (.for_ rfl e) (.ret rfl)))) rfl
end Sm

set_option maxHeartbeats 4000000
namespace Sm
open PySem PySem.Spec PyProof.Rows L2 Lf

theorem maxI_le_iff {ns : List Int} {n x : Int} : maxI ns n ≤ x ↔ n ≤ x ∧ ∀ y ∈ ns, y ≤ x := by
  obtain ⟨h1, h2⟩ := maxI_le ns n
  refine ⟨fun h => ⟨by omega, fun y hy => by have := h2 y hy; omega⟩, fun ⟨a, b⟩ => ?_⟩
  rcases List.mem_cons.mp (maxI_mem ns n) with e | e
  · omega
  · exact b _ e
theorem le_minI_iff {ns : List Int} {n x : Int} : x ≤ minI ns n ↔ x ≤ n ∧ ∀ y ∈ ns, x ≤ y := by
  obtain ⟨h1, h2⟩ := minI_le ns n
  refine ⟨fun h => ⟨by omega, fun y hy => by have := h2 y hy; omega⟩, fun ⟨a, b⟩ => ?_⟩
  rcases List.mem_cons.mp (minI_mem ns n) with e | e
  · omega
  · exact b _ e
theorem runsL_len : ∀ (rs : Row) (o : Int), (runsL o rs).length = rs.length
  | [], _ => rfl
  | _ :: rs, _ => congrArg (· + 1) (runsL_len rs _)
/-- what the runs are -/
theorem runsL_in : ∀ {rs : Row} {o : Int} {t : Int × Int × Int}, (∀ r ∈ rs, 1 ≤ r.1 ∧ 0 ≤ r.2) → t ∈ runsL o rs → o ≤ t.1 ∧ t.1 < t.2.1 ∧ t.2.1 ≤ o + tot rs ∧ 0 ≤ t.2.2
  | [], _, _, _, h => by cases h
  | r :: rs, o, t, hp, h => by
    have hr := hp r List.mem_cons_self
    have hp' : ∀ r ∈ rs, 1 ≤ r.1 ∧ 0 ≤ r.2 := fun x hx => hp x (List.mem_cons_of_mem _ hx)
    have ht : tot (r :: rs) = r.1 + tot rs := by unfold tot; rw [List.map_cons, List.sum_cons]
    have ht0 : 0 ≤ tot rs := by
      clear h ht hp hr
      induction rs with
      | nil => exact Int.le_refl _
      | cons a rs ih =>
        have h1 := hp' a List.mem_cons_self
        have h2 := ih fun x hx => hp' x (List.mem_cons_of_mem _ hx)
        unfold tot at h2 ⊢
        rw [List.map_cons, List.sum_cons]
        omega
    rcases List.mem_cons.mp h with rfl | h
    · exact ⟨Int.le_refl _, by show o < o + r.1; omega, by show o + r.1 ≤ _; omega, hr.2⟩
    · obtain ⟨h1, h2, h3, h4⟩ := runsL_in hp' h
      exact ⟨by omega, h2, by omega, h4⟩
theorem tot_nonneg {rs : Row} (hp : ∀ r ∈ rs, 1 ≤ r.1 ∧ 0 ≤ r.2) : 0 ≤ tot rs := by
  induction rs with
  | nil => exact Int.le_refl _
  | cons a rs ih =>
    have h1 := hp a List.mem_cons_self
    have h2 := ih fun x hx => hp x (List.mem_cons_of_mem _ hx)
    unfold tot at h2 ⊢
    rw [List.map_cons, List.sum_cons]
    omega
/-- each ford is in some run -/
theorem runsL_cover : ∀ {rs : Row} {o x : Int}, o ≤ x → x < o + tot rs → ∃ t ∈ runsL o rs, t.1 ≤ x ∧ x < t.2.1
  | [], o, x, h1, h2 => by unfold tot at h2; simp at h2; omega
  | r :: rs, o, x, h1, h2 => by
    have ht : tot (r :: rs) = r.1 + tot rs := by unfold tot; rw [List.map_cons, List.sum_cons]
    by_cases h : x < o + r.1
    · exact ⟨_, List.mem_cons_self, h1, h⟩
    · obtain ⟨t, h3, h4⟩ := runsL_cover (rs := rs) (o := o + r.1) (x := x) (by omega) (by omega)
      exact ⟨t, List.mem_cons_of_mem _ h3, h4⟩
/-! ## numbers of islands -/
theorem check_ok {rs : Row} (h : RowOk rs) (S : Sto) : ∀ (xs : List Int), (∀ x ∈ xs, 0 ≤ x ∧ x < 1 + tot rs) → fg_check_numbers [.d (rowD rs), .d (.tuple (xs.map PyData.int))] S = .ok (.d .none) S := by
  intro xs hx
  have loop : ∀ (ys : List Int) (o : Option Vl), (∀ x ∈ ys, 0 ≤ x ∧ x < 1 + tot rs) → ∃ o', loopS (.n 2) (sIf (eNotT (eTest (eChain leF ltF (eK (.int 0)) (eV 2) (eArgs (callF 1 fg_islands_in) (asCons (eV 0) asNil))))) sStuck sNil) (ys.map PyData.int) [some (.d (rowD rs)), some (.d (.tuple (xs.map PyData.int))), o] S = some (.nx, [some (.d (rowD rs)), some (.d (.tuple (xs.map PyData.int))), o'], S) := by
    intro ys
    induction ys with
    | nil => exact fun o _ => ⟨o, rfl⟩
    | cons y ys ih =>
      intro o hy
      obtain ⟨h1, h2⟩ := hy y List.mem_cons_self
      obtain ⟨o', e⟩ := ih (some (.d (.int y))) fun x hx => hy x (List.mem_cons_of_mem _ hx)
      refine ⟨o', loop_cons (ρ1 := [some (.d (rowD rs)), some (.d (.tuple (xs.map PyData.int))), some (.d (.int y))]) rfl (.ifF (ev_notT (t := true) (ev_test (ev_chain rfl rfl (by rw [leF_ii, decide_eq_true h1]) (ev_c1 rfl rfl (islands_ok h S)) (by rw [ltF_ii, decide_eq_true h2])))) .nil) e⟩
  obtain ⟨o', e⟩ := loop xs none hx
  exact fn_nx rfl rfl ⟨_, sFor_ok rfl e⟩
/-! ## last_height -/
theorem ixt {a b c : Int} {ρ : Env} : True := trivial
theorem last_same {rs : Row} (h : RowOk rs) (S : Sto) {x : Int} (hx : 0 ≤ x ∧ x < 1 + tot rs) : fg_last_height [.d (rowD rs), .d (.int x), .d (.int x)] S = .ok (.d .none) S := by
  have hc := check_ok h S [x, x] (by intro z hz; simp at hz; rw [hz]; exact hx)
  refine fn_rts rfl rfl (.nx (.expr (ev_c2 rfl (ev_t2 rfl rfl) rfl rfl hc)) (.stop (.ifT (ev_test (ev_2 rfl rfl (r := .bool true) (by show eqF (.int x) (.int x) = _; simp [eqF, eqP]))) (.ret rfl)))) rfl
/-- the heights between -/
def between (rs : Row) (lo hi : Int) : List Int := ((runsL 0 rs).filter fun t => decide (t.1 < hi) && decide (lo < t.2.1)).map fun t => t.2.2
theorem between_ne {rs : Row} (h : RowOk rs) {lo hi : Int} (h0 : 0 ≤ lo) (h1 : lo < hi) (h2 : hi < 1 + tot rs) : ∃ n ns, between rs lo hi = n :: ns := by
  obtain ⟨t, ht, a, b⟩ := runsL_cover (rs := rs) (o := 0) (x := lo) h0 (by omega)
  have hm : t.2.2 ∈ between rs lo hi := List.mem_map.mpr ⟨t, List.mem_filter.mpr ⟨ht, by simp; omega⟩, rfl⟩
  cases e : between rs lo hi with
  | nil => rw [e] at hm; cases hm
  | cons n ns => exact ⟨n, ns, rfl⟩
def lastH (rs : Row) (lo hi : Int) : Int := match between rs lo hi with
  | [] => 0
  | n :: ns => minI ns n
theorem lt_lastH {rs : Row} (h : RowOk rs) {lo hi w : Int} (h0 : 0 ≤ lo) (h1 : lo < hi) (h2 : hi < 1 + tot rs) : w < lastH rs lo hi ↔ ∀ t ∈ runsL 0 rs, t.1 < hi → lo < t.2.1 → w < t.2.2 := by
  obtain ⟨n, ns, e⟩ := between_ne h h0 h1 h2
  unfold lastH
  rw [e]
  show w < minI ns n ↔ _
  rw [show w < minI ns n ↔ w + 1 ≤ minI ns n from Iff.rfl, le_minI_iff]
  have key : (w + 1 ≤ n ∧ ∀ y ∈ ns, w + 1 ≤ y) ↔ ∀ y ∈ between rs lo hi, w < y := by
    rw [e]
    simp only [List.mem_cons, forall_eq_or_imp]
    exact Iff.rfl
  rw [key]
  unfold between
  simp only [List.mem_map, List.mem_filter, Bool.and_eq_true, decide_eq_true_eq]
  exact ⟨fun k t ht a b => k _ ⟨t, ⟨ht, a, b⟩, rfl⟩, fun k y ⟨t, ⟨ht, a, b⟩, e⟩ => by rw [← e]; exact k t ht a b⟩
theorem last_ok {rs : Row} (h : RowOk rs) (S : Sto) {x y : Int} (hx : 0 ≤ x ∧ x < 1 + tot rs) (hy : 0 ≤ y ∧ y < 1 + tot rs) (ne : x ≠ y) : fg_last_height [.d (rowD rs), .d (.int x), .d (.int y)] S = .ok (.d (.int (lastH rs (if y < x then y else x) (if y > x then y else x)))) S := by
  have hc := check_ok h S [x, y] (by intro z hz; simp at hz; rcases hz with rfl | rfl; exact hx; exact hy)
  generalize elo : (if y < x then y else x) = lo
  generalize ehi : (if y > x then y else x) = hi
  have hlo : 0 ≤ lo ∧ lo < hi ∧ hi < 1 + tot rs := by
    rw [← elo, ← ehi]
    split <;> split <;> omega
  obtain ⟨n, ns, e⟩ := between_ne h hlo.1 hlo.2.1 hlo.2.2
  have ec := eComp_of (pt := .t [(.n 5), (.n 6), (.n 7)]) (fi := iSq (eArgs (callF 1 fg_runs) (asCons (eV 0) asNil))) (tt := eAndT (eTest (e2 (lift2 ltF) (eV 5) (eV 4))) (eTest (e2 (lift2 ltF) (eV 3) (eV 6)))) (elt := eV 7) (vs := [5, 6, 7])
    (ρ := [some (.d (rowD rs)), some (.d (.int x)), some (.d (.int y)), some (.d (.int lo)), some (.d (.int hi)), none, none, none]) (S := S) triD (fun t => decide (t.1 < hi) && decide (lo < t.2.1)) (fun t => .int t.2.2) (runsL 0 rs)
    (by show (eArgs (callF 1 fg_runs) (asCons (eV 0) asNil) _ S).bind seqOf = _; rw [ev_c1 (x := .d (rowD rs)) rfl rfl (runs_ok h S)]; rfl) (by rw [runsL_len]; exact small20 h.len)
    (fun t _ => ⟨_, rfl, by
      by_cases c : t.1 < hi
      · rw [decide_eq_true c, Bool.true_and]
        exact ev_andT (ev_test (ev_2 rfl rfl (by rw [ltF_ii, decide_eq_true c]))) (ev_test (ev_2 rfl rfl (ltF_ii)))
      · rw [decide_eq_false c, Bool.false_and]
        exact ev_andF (ev_test (ev_2 rfl rfl (by rw [ltF_ii, decide_eq_false c]))), fun _ => rfl⟩)
  rw [map_int] at ec
  change eComp _ _ _ _ _ _ S = .ok (.d (.list ((between rs lo hi).map PyData.int))) S at ec
  rw [e] at ec
  have el : lastH rs lo hi = minI ns n := by unfold lastH; rw [e]
  rw [el]
  refine fn_rts (x := .d (.int (minI ns n))) rfl rfl (.nx (.expr (ev_c2 rfl (ev_t2 rfl rfl) rfl rfl hc)) (.nx (.ifF (ev_test (ev_2 rfl rfl (r := .bool false) (by show eqF (.int x) (.int y) = _; simp [eqF, eqP, ne]))) .nil)
    (.nx (.asgn (ρ1 := [some (.d (rowD rs)), some (.d (.int x)), some (.d (.int y)), some (.d (.int lo)), some (.d (.int hi)), none, none, none]) (ev_t2 (ev_A2 rfl rfl (r := .int lo) (by show some (PyData.int (if y < x then y else x)) = _; rw [elo])) (ev_A2 rfl rfl (r := .int hi) (by show some (PyData.int (if y > x then y else x)) = _; rw [ehi]))) rfl)
    (.ret (ev_A1 ec (by show (match asInts ((n :: ns).map PyData.int) with | some (n :: ns) => some (PyData.int (minI ns n)) | _ => none) = _; rw [asInts_map])))))) rfl
end Sm

set_option maxHeartbeats 200000
namespace Sm
open PySem PySem.Spec PyProof.Rows L2 Lf

/-! ## lot_at -/
def pairI (p : Int × Int) : PyData := .tuple [.int p.1, .int p.2]
def sunkL (rs : Row) (w : Int) : List (Int × Int) := ((runsL 0 rs).filter fun t => decide (t.2.2 ≤ w)).map fun t => (t.1, t.2.1)
def loL (rs : Row) (x w : Int) : Int := maxI (((sunkL rs w).filter fun p => decide (p.1 < x)).map fun p => if p.2 < x then p.2 else x) 0
def hiL (rs : Row) (x w : Int) : Int := minI (((sunkL rs w).filter fun p => decide (x < p.2)).map fun p => if p.1 > x then p.1 else x) (tot rs)
theorem sunk_len (rs : Row) (w : Int) : (sunkL rs w).length ≤ rs.length := by
  unfold sunkL
  rw [List.length_map, ← runsL_len rs 0]
  exact List.length_filter_le _ _
theorem ev_star {ρ : Env} {S : Sto} {a b : Ex} {p : PyData} {ns : List Int} (h : a ρ S = .ok (.d p) S) (k : b ρ S = .ok (.d (.list (ns.map PyData.int))) S) (hl : ns.length ≤ 100) : eArgs mkLst (asCons a (asStar b asNil)) ρ S = .ok (.d (.list (p :: ns.map PyData.int))) S := by
  have hd : ∀ ms : List Int, datas ((ms.map PyData.int).map Vl.d) = some (ms.map PyData.int) := fun ms => by
    induction ms with
    | nil => rfl
    | cons m ms ih =>
      show (match datas ((ms.map PyData.int).map Vl.d) with
        | some xs => some (PyData.int m :: xs)
        | none => none) = _
      rw [ih]
      rfl
  have e : asStar b asNil ρ S = .ok ((ns.map PyData.int).map Vl.d) S := by
    unfold asStar
    rw [k, rbind_ok]
    show (R.ok [] S).bind (fun xs S2 => R.ok ((ns.map PyData.int).map Vl.d ++ xs) S2) = _
    rw [rbind_ok, List.append_nil]
  rw [eArgs_eq, asCons_eq, h, rbind_ok, e, rbind_ok, rbind_ok]
  unfold mkLst
  rw [show datas (Vl.d p :: (ns.map PyData.int).map Vl.d) = some (p :: ns.map PyData.int) from by
    show (match datas ((ns.map PyData.int).map Vl.d) with
        | some xs => some (p :: xs)
        | none => none) = _
    rw [hd]]
  dsimp only
  rw [if_pos]
  rw [List.length_cons, List.length_map]
  exact Nat.le_trans (show ns.length + 1 ≤ 101 by omega) (by decide)
theorem fMax_ok (n : Int) (ns : List Int) : fMax [.list ((n :: ns).map PyData.int)] = some (.int (maxI ns n)) := by
  show (match asInts ((n :: ns).map PyData.int) with | some (n :: ns) => some (PyData.int (maxI ns n)) | _ => none) = _
  rw [asInts_map]
theorem fMin_ok (n : Int) (ns : List Int) : fMin [.list ((n :: ns).map PyData.int)] = some (.int (minI ns n)) := by
  show (match asInts ((n :: ns).map PyData.int) with | some (n :: ns) => some (PyData.int (minI ns n)) | _ => none) = _
  rw [asInts_map]
theorem lot_ok {rs : Row} (h : RowOk rs) (S : Sto) {x w : Int} (hx : 0 ≤ x ∧ x < 1 + tot rs) : fg_lot_at [.d (rowD rs), .d (.int x), .d (.int w)] S = .ok (.d (.tuple [.int (loL rs x w), .int (hiL rs x w)])) S := by
  have hc := check_ok h S [x] (by intro z hz; simp at hz; rw [hz]; exact hx)
  have hlen : (sunkL rs w).length ≤ 20 := Nat.le_trans (sunk_len rs w) h.len
  have e1 := eComp_of (pt := .t [(.n 4), (.n 5), (.n 6)]) (fi := iSq (eArgs (callF 1 fg_runs) (asCons (eV 0) asNil))) (tt := eTest (e2 (lift2 leF) (eV 6) (eV 2))) (elt := eArgs mkTup (asCons (eV 4) (asCons (eV 5) asNil))) (vs := [4, 5, 6])
    (ρ := [some (.d (rowD rs)), some (.d (.int x)), some (.d (.int w)), none, none, none, none, none, none]) (S := S) triD (fun t => decide (t.2.2 ≤ w)) (fun t => pairI (t.1, t.2.1)) (runsL 0 rs)
    (by show (eArgs (callF 1 fg_runs) (asCons (eV 0) asNil) _ S).bind seqOf = _; rw [ev_c1 (x := .d (rowD rs)) rfl rfl (runs_ok h S)]; rfl) (by rw [runsL_len]; exact small20 h.len)
    (fun t _ => ⟨_, rfl, ev_test (ev_2 rfl rfl leF_ii), fun _ => ev_t2 rfl rfl⟩)
  have es : ((runsL 0 rs).filter fun t => decide (t.2.2 ≤ w)).map (fun t => pairI (t.1, t.2.1)) = (sunkL rs w).map pairI := by
    unfold sunkL
    rw [List.map_map]
    rfl
  rw [es] at e1
  have e2' := eComp_of (pt := .t [(.n 4), (.n 5)]) (fi := iSq (eV 3)) (tt := eTest (e2 (lift2 ltF) (eV 4) (eV 1))) (elt := eArgs (liftA fMin) (asCons (eV 1) (asCons (eV 5) asNil))) (vs := [4, 5])
    (ρ := [some (.d (rowD rs)), some (.d (.int x)), some (.d (.int w)), some (.d (.list ((sunkL rs w).map pairI))), none, none, none, none, none]) (S := S) pairI (fun p => decide (p.1 < x)) (fun p => .int (if p.2 < x then p.2 else x)) (sunkL rs w) rfl (small20 hlen)
    (fun t _ => ⟨_, rfl, ev_test (ev_2 rfl rfl ltF_ii), fun _ => ev_A2 rfl rfl rfl⟩)
  rw [map_int (fun p : Int × Int => if p.2 < x then p.2 else x)] at e2'
  generalize ef : ((sunkL rs w).filter fun p => decide (p.1 < x)).map (fun p => if p.2 < x then p.2 else x) = fs at e2'
  have e3 := eComp_of (pt := .t [(.n 4), (.n 5)]) (fi := iSq (eV 3)) (tt := eTest (e2 (lift2 ltF) (eV 1) (eV 5))) (elt := eArgs (liftA fMax) (asCons (eV 1) (asCons (eV 4) asNil))) (vs := [4, 5])
    (ρ := [some (.d (rowD rs)), some (.d (.int x)), some (.d (.int w)), some (.d (.list ((sunkL rs w).map pairI))), none, none, none, some (.d (.list (fs.map PyData.int))), none]) (S := S) pairI (fun p => decide (x < p.2)) (fun p => .int (if p.1 > x then p.1 else x)) (sunkL rs w) rfl (small20 hlen)
    (fun t _ => ⟨_, rfl, ev_test (ev_2 rfl rfl ltF_ii), fun _ => ev_A2 rfl rfl rfl⟩)
  rw [map_int (fun p : Int × Int => if p.1 > x then p.1 else x)] at e3
  generalize eg : ((sunkL rs w).filter fun p => decide (x < p.2)).map (fun p => if p.1 > x then p.1 else x) = gs at e3
  have lf : fs.length ≤ 100 := by
    rw [← ef, List.length_map]
    have := List.length_filter_le (fun p => decide (p.1 < x)) (sunkL rs w)
    omega
  have lg : gs.length ≤ 100 := by
    rw [← eg, List.length_map]
    have := List.length_filter_le (fun p => decide (x < p.2)) (sunkL rs w)
    omega
  have ea : loL rs x w = maxI fs 0 := by unfold loL; rw [ef]
  have eb : hiL rs x w = minI gs (tot rs) := by unfold hiL; rw [eg]
  rw [ea, eb]
  have one : eArgs mkTup (asCons (eV 1) asNil) [some (.d (rowD rs)), some (.d (.int x)), some (.d (.int w)), none, none, none, none, none, none] S = .ok (.d (.tuple [.int x])) S := rfl
  refine fn_rts (x := .d (.tuple [.int (maxI fs 0), .int (minI gs (tot rs))])) rfl rfl (.nx (.expr (ev_c2 rfl one rfl rfl hc)) (.nx (.set e1) (.nx (.set e2') (.nx (.set e3) (.ret
    (ev_t2 (ev_A1 (ev_star rfl rfl lf) (fMax_ok 0 fs)) (ev_A1 (ev_star (ev_2 (r := .int (tot rs)) (ev_c1 rfl rfl (islands_ok h S)) rfl (by rw [subD_ii, show 1 + tot rs - 1 = tot rs by omega])) rfl lg) (fMin_ok (tot rs) gs)))))))) rfl
/-! ## great_lots -/
def glots (w : Int) : Int → Row → List Int
  | c, [] => [c]
  | c, r :: rs => if w < r.2 then glots w (c + r.1) rs else c :: glots w 1 rs
def gbody : Sx := (sIf (eTest (e2 (lift2 gtF) (eV 4) (eV 1))) (sPut 2 (e1 (lift1 negF) (eK (.int 1))) (e2 (lift2 addD) (e2 (lift2 ixLT) (eV 2) (e1 (lift1 negF) (eK (.int 1)))) (eV 3))) (sApp 2 (eK (.int 1))))
theorem ixN_last (n : Nat) : ixN (n + 1) (-1) = some n := by
  unfold ixN
  rw [if_neg (by decide), if_pos (by omega)]
  congr 1
  omega
theorem put_last (S : Sto) (d : PyData) (w : Int) (r : Int × Int) (acc : List PyData) (c : Int) : sPut 2 (e1 (lift1 negF) (eK (.int 1))) (e2 (lift2 addD) (e2 (lift2 ixLT) (eV 2) (e1 (lift1 negF) (eK (.int 1)))) (eV 3)) [some (.d d), some (.d (.int w)), some (.o (acc ++ [.int c])), some (.d (.int r.1)), some (.d (.int r.2))] S = some (.nx, [some (.d d), some (.d (.int w)), some (.o (acc ++ [.int (c + r.1)])), some (.d (.int r.1)), some (.d (.int r.2))], S) := by
  have hl : (acc ++ [PyData.int c]).length = acc.length + 1 := by simp
  have ha : atI (acc ++ [PyData.int c]) (-1) = some (.int c) := by
    unfold atI
    rw [hl, ixN_last]
    simp
  have hs : (acc ++ [PyData.int c]).set acc.length (.int (c + r.1)) = acc ++ [.int (c + r.1)] := by simp
  generalize acc ++ [PyData.int c] = l at hl ha hs ⊢
  have k0 : e2 (lift2 ixLT) (eV 2) (e1 (lift1 negF) (eK (.int 1))) [some (.d d), some (.d (.int w)), some (.o l), some (.d (.int r.1)), some (.d (.int r.2))] S = .ok (.d (.int c)) S := by
    rw [e2_eq]
    show ((lift (atI l (-1)) S)) = _
    rw [ha]
    rfl
  have k1 : e2 (lift2 addD) (e2 (lift2 ixLT) (eV 2) (e1 (lift1 negF) (eK (.int 1)))) (eV 3) [some (.d d), some (.d (.int w)), some (.o l), some (.d (.int r.1)), some (.d (.int r.2))] S = .ok (.d (.int (c + r.1))) S := ev_2 k0 rfl rfl
  unfold sPut
  rw [k1]
  show putV 2 (.o l) _ S (.int (c + r.1)) (-1) = _
  unfold putV
  dsimp only
  rw [hl, ixN_last]
  dsimp only
  rw [hs]
  rfl
theorem great_loop (S : Sto) (d : PyData) (w : Int) : ∀ (rs : Row) (c : Int) (acc : List PyData) (x y : Option Vl), acc.length + rs.length ≤ 1000 → ∃ x' y', loopS (.t [(.n 3), (.n 4)]) gbody (rs.map runD) [some (.d d), some (.d (.int w)), some (.o (acc ++ [.int c])), x, y] S = some (.nx, [some (.d d), some (.d (.int w)), some (.o (acc ++ (glots w c rs).map PyData.int)), x', y'], S)
  | [], c, acc, x, y, _ => ⟨x, y, rfl⟩
  | r :: rs, c, acc, x, y, hl => by
    rw [List.length_cons] at hl
    by_cases hw : w < r.2
    · obtain ⟨x', y', ih⟩ := great_loop S d w rs (c + r.1) acc (some (.d (.int r.1))) (some (.d (.int r.2))) (by omega)
      refine ⟨x', y', loop_cons (ρ1 := [some (.d d), some (.d (.int w)), some (.o (acc ++ [.int c])), some (.d (.int r.1)), some (.d (.int r.2))]) rfl (ρ2 := [some (.d d), some (.d (.int w)), some (.o (acc ++ [.int (c + r.1)])), some (.d (.int r.1)), some (.d (.int r.2))]) (S1 := S) (.ifT (ev_test (ev_2 rfl rfl (by rw [gtF_ii, decide_eq_true hw]))) ?_) (by
        rw [ih]
        show _ = some (Out.nx, [_, _, some (Vl.o (acc ++ (if w < r.2 then glots w (c + r.1) rs else c :: glots w 1 rs).map PyData.int)), _, _], S)
        rw [if_pos hw])⟩
      exact put_last S d w r acc c
    · obtain ⟨x', y', ih⟩ := great_loop S d w rs 1 (acc ++ [.int c]) (some (.d (.int r.1))) (some (.d (.int r.2))) (by rw [List.length_append, List.length_singleton]; omega)
      refine ⟨x', y', loop_cons (ρ1 := [some (.d d), some (.d (.int w)), some (.o (acc ++ [.int c])), some (.d (.int r.1)), some (.d (.int r.2))]) rfl (ρ2 := [some (.d d), some (.d (.int w)), some (.o (acc ++ [.int c] ++ [.int 1])), some (.d (.int r.1)), some (.d (.int r.2))]) (S1 := S) (.ifF (ev_test (ev_2 rfl rfl (by rw [gtF_ii, decide_eq_false hw]))) ?_) (by
        rw [ih]
        show _ = some (Out.nx, [_, _, some (Vl.o (acc ++ (if w < r.2 then glots w (c + r.1) rs else c :: glots w 1 rs).map PyData.int)), _, _], S)
        rw [if_neg hw, List.append_assoc]
        rfl)⟩
      show sApp 2 (eK (.int 1)) [some (.d d), some (.d (.int w)), some (.o (acc ++ [.int c])), some (.d (.int r.1)), some (.d (.int r.2))] S = _
      unfold sApp
      show (if (acc ++ [PyData.int c]).length ≤ big then _ else none) = _
      rw [if_pos (by rw [List.length_append, List.length_singleton]; exact Nat.le_trans (show acc.length + 1 ≤ 1001 by omega) (by decide))]
      rfl
theorem glots_cons : ∀ (w : Int) (rs : Row) (c : Int), ∃ n ns, glots w c rs = n :: ns
  | w, [], c => ⟨c, [], rfl⟩
  | w, r :: rs, c => by
    show ∃ n ns, (if w < r.2 then glots w (c + r.1) rs else c :: glots w 1 rs) = n :: ns
    split
    · exact glots_cons w rs _
    · exact ⟨_, _, rfl⟩
theorem great_ok {rs : Row} (h : RowOk rs) (S : Sto) (w : Int) : fg_great_lots [.d (rowD rs), .d (.int w)] S = .ok (.d (.list ((glots w 1 rs).map PyData.int))) S := by
  obtain ⟨x', y', e⟩ := great_loop S (rowD rs) w rs 1 [] none none (by have := h.len; simp; omega)
  exact fn_rts (x := .o ((glots w 1 rs).map PyData.int)) rfl rfl (.nx (ρ1 := [some (.d (rowD rs)), some (.d (.int w)), some (.o [.int 1]), none, none]) (S1 := S) rfl (.nx (.for_ rfl e) (.ret rfl))) rfl
def greatest (rs : Row) (w : Int) : Int := match glots w 1 rs with
  | [] => 0
  | n :: ns => maxI ns n
theorem le_greatest {rs : Row} {w s : Int} (h : s ∈ glots w 1 rs) : s ≤ greatest rs w := by
  unfold greatest
  cases e : glots w 1 rs with
  | nil => rw [e] at h; cases h
  | cons n ns =>
    rw [e] at h
    obtain ⟨h1, h2⟩ := maxI_le ns n
    rcases List.mem_cons.mp h with rfl | h
    · exact h1
    · exact h2 s h
theorem greatest_ok {rs : Row} (h : RowOk rs) (S : Sto) (w : Int) : fg_greatest_lot [.d (rowD rs), .d (.int w)] S = .ok (.d (.int (greatest rs w))) S := by
  have e := great_ok h S w
  obtain ⟨n, ns, eg⟩ := glots_cons w rs 1
  have e2 : greatest rs w = maxI ns n := by unfold greatest; rw [eg]
  rw [eg] at e
  rw [e2]
  exact fn_rts rfl rfl (.ret (ev_A1 (ev_c2 rfl rfl rfl rfl e) (fMax_ok n ns))) rfl
def pairsOf (s : Int) : Int := s * (s - 1) / 2
def joinedAt (rs : Row) (w : Int) : Int := ((glots w 1 rs).map pairsOf).sum
theorem glots_bound {w : Int} : ∀ {rs : Row} {c s : Int}, (∀ r ∈ rs, 1 ≤ r.1 ∧ 0 ≤ r.2) → 1 ≤ c → s ∈ glots w c rs → 1 ≤ s ∧ s ≤ c + tot rs
  | [], c, s, _, hc, h => by
    have : s = c := by simpa [glots] using h
    unfold tot
    simp
    omega
  | r :: rs, c, s, hp, hc, h => by
    have hr := hp r List.mem_cons_self
    have hp' : ∀ r ∈ rs, 1 ≤ r.1 ∧ 0 ≤ r.2 := fun x hx => hp x (List.mem_cons_of_mem _ hx)
    have ht : tot (r :: rs) = r.1 + tot rs := by unfold tot; rw [List.map_cons, List.sum_cons]
    have h0 := tot_nonneg hp'
    have h' : s ∈ (if w < r.2 then glots w (c + r.1) rs else c :: glots w 1 rs) := h
    split at h'
    · obtain ⟨a, b⟩ := glots_bound hp' (by omega) h'
      omega
    · rcases List.mem_cons.mp h' with rfl | h'
      · omega
      · obtain ⟨a, b⟩ := glots_bound hp' (by omega) h'
        omega
theorem glots_len {w : Int} : ∀ {rs : Row} {c : Int}, (glots w c rs).length ≤ rs.length + 1
  | [], c => by simp [glots]
  | r :: rs, c => by
    show (if w < r.2 then glots w (c + r.1) rs else c :: glots w 1 rs).length ≤ _
    split
    · have := glots_len (w := w) (rs := rs) (c := c + r.1)
      rw [List.length_cons]
      omega
    · have := glots_len (w := w) (rs := rs) (c := 1)
      rw [List.length_cons, List.length_cons]
      omega
theorem smallI_lt2 {i : Int} (h0 : 0 ≤ i) (h : i < 2 ^ 200) : smallI i = true := by
  refine smallI_of ?_
  have : i.natAbs < 2 ^ 200 := by omega
  exact Nat.lt_trans this (by decide +kernel)
theorem joined_ok {rs : Row} (h : RowOk rs) (hb : tot rs < 2 ^ 190) (S : Sto) (w : Int) : fg_how_many_joined [.d (rowD rs), .d (.int w)] S = .ok (.d (.int (joinedAt rs w))) S := by
  have e := eComp_of (pt := .n 2) (fi := iSq (eArgs (callF 2 fg_great_lots) (asCons (eV 0) (asCons (eV 1) asNil)))) (tt := yesT) (elt := e2 (lift2 divD) (e2 (lift2 mulD) (eV 2) (e2 (lift2 subD) (eV 2) (eK (.int 1)))) (eK (.int 2))) (vs := [2])
    (ρ := [some (.d (rowD rs)), some (.d (.int w)), none]) (S := S) PyData.int (fun _ => true) (fun s => .int (pairsOf s)) (glots w 1 rs)
    (by show (eArgs (callF 2 fg_great_lots) _ _ S).bind seqOf = _; rw [ev_c2 (x := .d (rowD rs)) (y := .d (.int w)) rfl rfl rfl rfl (great_ok h S w)]; rfl) (Nat.le_trans glots_len (Nat.le_trans (show rs.length + 1 ≤ 21 by have := h.len; omega) (by decide)))
    (fun s hs => ⟨_, rfl, rfl, fun _ => by
      obtain ⟨h1, h2⟩ := glots_bound h.pos (Int.le_refl 1) hs
      exact ev_2 (ev_2 rfl (ev_2 rfl rfl subD_ii) (by rw [mulD_ii]; exact mulI_ok (smallI_lt2 (by omega) (by omega)) (smallI_lt2 (by omega) (by omega)))) rfl (by rw [divD_ii]; exact divI_ok (by decide) (by decide +kernel))⟩)
  rw [filter_yes, map_int] at e
  exact fn_rts rfl rfl (.ret (ev_A1 e (fSum_ok _))) rfl
/-! ## waters -/
def hts (rs : Row) : List Int := rs.map (·.2)
theorem asc_ok (S : Sto) {ns : List Int} (hl : ns.length < 64) : fg_ascending [.d (.list (ns.map PyData.int))] S = .ok (.d (.tuple ((ascI ns).map PyData.int))) S := by
  have e : ssF (.list (ns.map PyData.int)) = some (.list ((ascI ns).map PyData.int)) := by
    show (match ssL (ns.map PyData.int) with | some es => some (PyData.list es) | none => none) = _
    unfold ssL
    rw [if_pos (by rw [List.length_map]; exact hl), asInts_map]
  exact fn_rts rfl rfl (.ret (ev_A1 (ev_1 rfl e) rfl)) rfl
theorem waters_ok {rs : Row} (h : RowOk rs) (S : Sto) : fg_waters_of [.d (rowD rs)] S = .ok (.d (.tuple ((ascI (hts rs)).map PyData.int))) S := by
  have e := eComp_of (pt := .t [(.n 1), (.n 2)]) (fi := iSq (eV 0)) (tt := yesT) (elt := eV 2) (vs := [1, 2]) (ρ := [some (.d (rowD rs)), none, none]) (S := S) runD (fun _ => true) (fun r => .int r.2) rs rfl (small20 h.len) fun r _ => ⟨_, rfl, rfl, fun _ => rfl⟩
  rw [filter_yes, map_int] at e
  exact fn_rts rfl rfl (.ret (ev_c1 e rfl (asc_ok S (by rw [List.length_map]; have := h.len; omega)))) rfl
def leastW (rs : Row) (n : Int) : Option Int := match (ascI (0 :: hts rs)).filter fun w => decide (n ≤ lotsAt rs w) with
  | [] => none
  | m :: ms => some (minI ms m)
def optD : Option Int → PyData
  | none => .none
  | some i => .int i
theorem ascI_len : ∀ ns : List Int, (ascI ns).length ≤ ns.length
  | [] => Nat.le_refl _
  | n :: ns => by
    have h : ∀ (x : Int) (ys : List Int), (insU x ys).length ≤ ys.length + 1 := fun x ys => by
      induction ys with
      | nil => simp [insU]
      | cons y ys ih =>
        unfold insU
        split
        · simp
        · split
          · simp
          · rw [List.length_cons, List.length_cons]
            omega
    have := ascI_len ns
    have := h n (ascI ns)
    show (insU n (ascI ns)).length ≤ _
    rw [List.length_cons]
    omega
theorem least_ok {rs : Row} (h : RowOk rs) (S : Sto) (n : Int) : fg_least_water [.d (rowD rs), .d (.int n)] S = .ok (.d (optD (leastW rs n))) S := by
  have hl20 := h.len
  have hlh : (hts rs).length ≤ 20 := by unfold hts; rw [List.length_map]; exact hl20
  have e := eComp_of (pt := .t [(.n 3), (.n 4)]) (fi := iSq (eV 0)) (tt := yesT) (elt := eV 4) (vs := [3, 4]) (ρ := [some (.d (rowD rs)), some (.d (.int n)), none, none, none, none]) (S := S) runD (fun _ => true) (fun r => .int r.2) rs rfl (small20 h.len) fun r _ => ⟨_, rfl, rfl, fun _ => rfl⟩
  rw [filter_yes, map_int] at e
  have e1 := ev_star (ρ := [some (.d (rowD rs)), some (.d (.int n)), none, none, none, none]) (S := S) (a := eK (.int 0)) (p := .int 0) rfl e (by show (hts rs).length ≤ 100; omega)
  have e2' := ev_c1 e1 rfl (asc_ok S (ns := 0 :: hts rs) (by rw [List.length_cons]; omega))
  have e3 := eComp_of (pt := .n 5) (fi := iSq (eV 2)) (tt := eTest (e2 (lift2 geF) (eArgs (callF 2 fg_lots_at) (asCons (eV 0) (asCons (eV 5) asNil))) (eV 1))) (elt := eV 5) (vs := [5])
    (ρ := [some (.d (rowD rs)), some (.d (.int n)), some (.d (.tuple ((ascI (0 :: hts rs)).map PyData.int))), none, none, none]) (S := S) PyData.int (fun w => decide (n ≤ lotsAt rs w)) PyData.int (ascI (0 :: hts rs)) rfl
    (Nat.le_trans (ascI_len _) (Nat.le_trans (show (0 :: hts rs).length ≤ 21 by rw [List.length_cons]; omega) (by decide)))
    (fun w _ => ⟨_, rfl, ev_test (ev_2 (ev_c2 rfl rfl rfl rfl (lots_ok h w S)) rfl geF_ii), fun _ => rfl⟩)
  refine fn_rts (x := .d (optD (leastW rs n))) rfl rfl (.nx (.set e2') (.ret (ev_1 e3 ?_))) rfl
  unfold leastW
  show (match asInts (((ascI (0 :: hts rs)).filter fun w => decide (n ≤ lotsAt rs w)).map PyData.int) with
    | some [] => some PyData.none
    | some (n :: ns) => some (.int (minI ns n))
    | none => none) = _
  rw [asInts_map]
  cases (ascI (0 :: hts rs)).filter fun w => decide (n ≤ lotsAt rs w) <;> rfl
end Sm

set_option maxHeartbeats 400000
namespace Sm
open PySem PySem.Spec PyProof.Rows L2 Lf

/-! ## counts -/
theorem tot_cons (r : Int × Int) (rs : Row) : tot (r :: rs) = r.1 + tot rs := by unfold tot; rw [List.map_cons, List.sum_cons]
def sub (rs : Row) (w : Int) : Int := ((rs.filter fun r => decide (r.2 ≤ w)).map (·.1)).sum
theorem sub_cons (r : Int × Int) (rs : Row) (w : Int) : sub (r :: rs) w = if r.2 ≤ w then r.1 + sub rs w else sub rs w := by
  unfold sub
  rw [List.filter_cons]
  by_cases h : r.2 ≤ w
  · rw [if_pos (by simpa using h), if_pos h, List.map_cons, List.sum_cons]
  · rw [if_neg (by simpa using h), if_neg h]
theorem lotsAt_eq (rs : Row) (w : Int) : lotsAt rs w = 1 + sub rs w := rfl
theorem sub_mono {rs : Row} (hp : ∀ r ∈ rs, 1 ≤ r.1 ∧ 0 ≤ r.2) {v w : Int} (h : v ≤ w) : sub rs v ≤ sub rs w := by
  induction rs with
  | nil => exact Int.le_refl _
  | cons r rs ih =>
    have hr := hp r List.mem_cons_self
    have ih := ih fun x hx => hp x (List.mem_cons_of_mem _ hx)
    rw [sub_cons, sub_cons]
    split <;> split <;> omega
theorem sub_le {rs : Row} (hp : ∀ r ∈ rs, 1 ≤ r.1 ∧ 0 ≤ r.2) (w : Int) : 0 ≤ sub rs w ∧ sub rs w ≤ tot rs := by
  induction rs with
  | nil => exact ⟨Int.le_refl _, Int.le_refl _⟩
  | cons r rs ih =>
    have hr := hp r List.mem_cons_self
    have ih := ih fun x hx => hp x (List.mem_cons_of_mem _ hx)
    rw [sub_cons, tot_cons]
    split <;> omega
theorem sub_all {rs : Row} {w : Int} (h : ∀ r ∈ rs, r.2 ≤ w) : sub rs w = tot rs := by
  induction rs with
  | nil => rfl
  | cons r rs ih =>
    rw [sub_cons, tot_cons, if_pos (h r List.mem_cons_self), ih fun x hx => h x (List.mem_cons_of_mem _ hx)]
theorem sub_same {rs : Row} {v w : Int} (h : ∀ r ∈ rs, (r.2 ≤ v ↔ r.2 ≤ w)) : sub rs v = sub rs w := by
  induction rs with
  | nil => rfl
  | cons r rs ih =>
    have := h r List.mem_cons_self
    rw [sub_cons, sub_cons, ih fun x hx => h x (List.mem_cons_of_mem _ hx)]
    by_cases k : r.2 ≤ v
    · rw [if_pos k, if_pos (this.mp k)]
    · rw [if_neg k, if_neg fun q => k (this.mpr q)]
theorem mem_hts {rs : Row} {r : Int × Int} (h : r ∈ rs) : r.2 ∈ hts rs := List.mem_map.mpr ⟨r, h, rfl⟩
theorem of_hts {rs : Row} {y : Int} (h : y ∈ hts rs) : ∃ r ∈ rs, r.2 = y := by
  obtain ⟨r, a, b⟩ := List.mem_map.mp h
  exact ⟨r, a, b⟩
/-- the waters that the law asks of -/
def waters (rs : Row) : List Int := 0 :: ascI (hts rs)
theorem waters_up {rs : Row} (hp : ∀ r ∈ rs, 1 ≤ r.1 ∧ 0 ≤ r.2) : (waters rs).Pairwise (· ≤ ·) := by
  refine List.pairwise_cons.mpr ⟨fun y hy => ?_, (ascI_up _).imp fun h => by omega⟩
  obtain ⟨r, a, b⟩ := of_hts (mem_ascI.mp hy)
  have := hp r a
  omega
/-- the highest water: above every height -/
def topW (rs : Row) : Int := (waters rs).getLast (by unfold waters; exact List.cons_ne_nil _ _)
theorem last_ge : ∀ {xs : List Int} (ne : xs ≠ []), xs.Pairwise (· ≤ ·) → ∀ y ∈ xs, y ≤ xs.getLast ne
  | [x], _, _, y, hy => by
    have : y = x := by simpa using hy
    rw [this]
    exact Int.le_refl _
  | x :: z :: xs, _, h, y, hy => by
    obtain ⟨h1, h2⟩ := List.pairwise_cons.mp h
    rw [List.getLast_cons (List.cons_ne_nil _ _)]
    rcases List.mem_cons.mp hy with rfl | hy
    · exact Int.le_trans (h1 z List.mem_cons_self) (last_ge (List.cons_ne_nil _ _) h2 z List.mem_cons_self)
    · exact last_ge (List.cons_ne_nil _ _) h2 y hy
theorem top_ge {rs : Row} (hp : ∀ r ∈ rs, 1 ≤ r.1 ∧ 0 ≤ r.2) : ∀ r ∈ rs, r.2 ≤ topW rs := fun r hr =>
  last_ge _ (waters_up hp) r.2 (List.mem_cons_of_mem _ (mem_ascI.mpr (mem_hts hr)))
theorem counts_up {rs : Row} (hp : ∀ r ∈ rs, 1 ≤ r.1 ∧ 0 ≤ r.2) : ((waters rs).map (lotsAt rs)).Pairwise (· ≤ ·) :=
  List.pairwise_map.mpr ((waters_up hp).imp fun h => by rw [lotsAt_eq, lotsAt_eq]; have := sub_mono hp h; omega)
theorem counts_last {rs : Row} (hp : ∀ r ∈ rs, 1 ≤ r.1 ∧ 0 ≤ r.2) : lotsAt rs (topW rs) = 1 + tot rs := by
  rw [lotsAt_eq, sub_all (top_ge hp)]
/-! ## joined -/
theorem tri_add (s t : Int) : pairsOf (s + t) = pairsOf s + pairsOf t + s * t := by
  have tw : ∀ s : Int, 2 * pairsOf s = s * (s - 1) := fun s => by
    unfold pairsOf
    have : s % 2 = 0 ∨ s % 2 = 1 := by omega
    have h : (s*(s-1)) % 2 = 0 := by
      rcases this with h | h
      · obtain ⟨k, rfl⟩ : ∃ k, s = 2*k := ⟨s/2, by omega⟩
        rw [Int.mul_assoc]; omega
      · obtain ⟨k, rfl⟩ : ∃ k, s = 2*k+1 := ⟨s/2, by omega⟩
        rw [show (2*k+1)*(2*k+1-1) = 2*((2*k+1)*k) by grind]; omega
    omega
  have h1 := tw (s + t)
  have h2 := tw s
  have h3 := tw t
  have h4 : (s+t)*(s+t-1) = s*(s-1) + t*(t-1) + 2*(s*t) := by grind
  omega
def jn (w : Int) (c : Int) (rs : Row) : Int := ((glots w c rs).map pairsOf).sum
theorem jn_nil (w c : Int) : jn w c [] = pairsOf c := by unfold jn glots; simp
theorem jn_cons (w c : Int) (r : Int × Int) (rs : Row) : jn w c (r :: rs) = if w < r.2 then jn w (c + r.1) rs else pairsOf c + jn w 1 rs := by
  unfold jn
  show ((if w < r.2 then glots w (c + r.1) rs else c :: glots w 1 rs).map pairsOf).sum = _
  split
  · rfl
  · rw [List.map_cons, List.sum_cons]
theorem jn_split {w : Int} : ∀ {rs : Row}, (∀ r ∈ rs, 1 ≤ r.1 ∧ 0 ≤ r.2) → ∀ {c x : Int}, 1 ≤ c → 0 ≤ x → pairsOf c + jn w x rs ≤ jn w (c + x) rs
  | [], _, c, x, hc, hx => by
    rw [jn_nil, jn_nil, tri_add]
    have := Int.mul_nonneg (show 0 ≤ c by omega) hx
    omega
  | r :: rs, hp, c, x, hc, hx => by
    have hr := hp r List.mem_cons_self
    have hp' : ∀ r ∈ rs, 1 ≤ r.1 ∧ 0 ≤ r.2 := fun y hy => hp y (List.mem_cons_of_mem _ hy)
    rw [jn_cons, jn_cons]
    split
    · rw [show c + x + r.1 = c + (x + r.1) by omega]
      exact jn_split hp' hc (by omega)
    · rw [tri_add]
      have := Int.mul_nonneg (show 0 ≤ c by omega) hx
      omega
theorem jn_up {w : Int} {rs : Row} (hp : ∀ r ∈ rs, 1 ≤ r.1 ∧ 0 ≤ r.2) {c d : Int} (h1 : 0 ≤ c) (h : c ≤ d) : jn w c rs ≤ jn w d rs := by
  by_cases e : c = d
  · rw [e]; exact Int.le_refl _
  · have k := jn_split (w := w) hp (c := d - c) (x := c) (by omega) h1
    rw [show d - c + c = d by omega] at k
    have p : 0 ≤ pairsOf (d - c) := by
      unfold pairsOf
      exact Int.ediv_nonneg (Int.mul_nonneg (by omega) (by omega)) (by decide)
    omega
theorem jn_down {v w : Int} (h : v ≤ w) : ∀ {rs : Row}, (∀ r ∈ rs, 1 ≤ r.1 ∧ 0 ≤ r.2) → ∀ {c : Int}, 1 ≤ c → jn w c rs ≤ jn v c rs
  | [], _, c, hc => by rw [jn_nil, jn_nil]; exact Int.le_refl _
  | r :: rs, hp, c, hc => by
    have hr := hp r List.mem_cons_self
    have hp' : ∀ r ∈ rs, 1 ≤ r.1 ∧ 0 ≤ r.2 := fun y hy => hp y (List.mem_cons_of_mem _ hy)
    rw [jn_cons, jn_cons]
    split
    · rw [if_pos (by omega)]
      exact jn_down h hp' (by omega)
    · split
      · have a := jn_down h hp' (c := 1) (by omega)
        have b := jn_up (w := v) hp' (c := 1) (d := r.1) (by omega) hr.1
        have d := jn_split (w := v) hp' (c := c) (x := r.1) hc (by omega)
        omega
      · have a := jn_down h hp' (c := 1) (by omega)
        omega
theorem jn_zero {w : Int} : ∀ {rs : Row}, (∀ r ∈ rs, r.2 ≤ w) → jn w 1 rs = 0
  | [], _ => by rw [jn_nil]; rfl
  | r :: rs, h => by
    rw [jn_cons, if_neg (by have := h r List.mem_cons_self; omega), jn_zero fun y hy => h y (List.mem_cons_of_mem _ hy)]
    rfl
theorem joined_down {rs : Row} (hp : ∀ r ∈ rs, 1 ≤ r.1 ∧ 0 ≤ r.2) : ((waters rs).map (joinedAt rs)).Pairwise (fun a b => b ≤ a) :=
  List.pairwise_map.mpr ((waters_up hp).imp fun h => jn_down h hp (Int.le_refl 1))
theorem joined_last {rs : Row} (hp : ∀ r ∈ rs, 1 ≤ r.1 ∧ 0 ≤ r.2) : joinedAt rs (topW rs) = 0 := jn_zero (top_ge hp)
/-! ## lots -/
theorem mem_sunk {rs : Row} {w : Int} {p : Int × Int} : p ∈ sunkL rs w ↔ ∃ t ∈ runsL 0 rs, t.2.2 ≤ w ∧ p = (t.1, t.2.1) := by
  unfold sunkL
  rw [List.mem_map]
  constructor
  · rintro ⟨t, h, rfl⟩
    obtain ⟨a, b⟩ := List.mem_filter.mp h
    exact ⟨t, a, of_decide_eq_true b, rfl⟩
  · rintro ⟨t, a, b, rfl⟩
    exact ⟨t, List.mem_filter.mpr ⟨a, decide_eq_true b⟩, rfl⟩
theorem lo_le {rs : Row} {x w y : Int} : loL rs x w ≤ y ↔ 0 ≤ y ∧ ∀ p ∈ sunkL rs w, p.1 < x → (if p.2 < x then p.2 else x) ≤ y := by
  unfold loL
  rw [maxI_le_iff]
  refine and_congr_right fun _ => ⟨fun h p hp hx => h _ (List.mem_map.mpr ⟨p, List.mem_filter.mpr ⟨hp, decide_eq_true hx⟩, rfl⟩), fun h z hz => ?_⟩
  obtain ⟨p, a, rfl⟩ := List.mem_map.mp hz
  obtain ⟨a, b⟩ := List.mem_filter.mp a
  exact h p a (of_decide_eq_true b)
theorem le_hi {rs : Row} {x w y : Int} : y ≤ hiL rs x w ↔ y ≤ tot rs ∧ ∀ p ∈ sunkL rs w, x < p.2 → y ≤ (if p.1 > x then p.1 else x) := by
  unfold hiL
  rw [le_minI_iff]
  refine and_congr_right fun _ => ⟨fun h p hp hx => h _ (List.mem_map.mpr ⟨p, List.mem_filter.mpr ⟨hp, decide_eq_true hx⟩, rfl⟩), fun h z hz => ?_⟩
  obtain ⟨p, a, rfl⟩ := List.mem_map.mp hz
  obtain ⟨a, b⟩ := List.mem_filter.mp a
  exact h p a (of_decide_eq_true b)
theorem sunk_in {rs : Row} (hp : ∀ r ∈ rs, 1 ≤ r.1 ∧ 0 ≤ r.2) {w : Int} {p : Int × Int} (h : p ∈ sunkL rs w) : 0 ≤ p.1 ∧ p.1 < p.2 ∧ p.2 ≤ tot rs := by
  obtain ⟨t, a, b, rfl⟩ := mem_sunk.mp h
  have := runsL_in hp a
  dsimp only
  omega
theorem lot_near {rs : Row} {x w : Int} (hx : 0 ≤ x ∧ x < 1 + tot rs) : loL rs x w ≤ x ∧ x ≤ hiL rs x w := by
  refine ⟨lo_le.mpr ⟨hx.1, fun p _ _ => ?_⟩, le_hi.mpr ⟨by omega, fun p _ _ => ?_⟩⟩
  · split <;> omega
  · split <;> omega
theorem lot_far {rs : Row} (h : RowOk rs) {x y w : Int} (hx : 0 ≤ x ∧ x < 1 + tot rs) (hy : 0 ≤ y ∧ y < 1 + tot rs) (ne : x ≠ y) :
    (loL rs x w ≤ y ∧ y ≤ hiL rs x w) ↔ w < lastH rs (if y < x then y else x) (if y > x then y else x) := by
  by_cases k : y < x
  · rw [if_pos k, if_neg (by omega), lt_lastH h hy.1 k hx.2]
    constructor
    · rintro ⟨a, _⟩ t ht h1 h2
      obtain ⟨_, a⟩ := lo_le.mp a
      apply Classical.byContradiction
      intro c
      have := a (t.1, t.2.1) (mem_sunk.mpr ⟨t, ht, by omega, rfl⟩) h1
      dsimp only at this
      split at this <;> omega
    · intro a
      refine ⟨lo_le.mpr ⟨hy.1, fun p hp hx' => ?_⟩, Int.le_trans (by omega) (lot_near hx).2⟩
      obtain ⟨t, ht, hw, rfl⟩ := mem_sunk.mp hp
      dsimp only at hx' ⊢
      have := a t ht hx'
      split <;> omega
  · rw [if_neg k, if_pos (by omega), lt_lastH h hx.1 (by omega) hy.2]
    constructor
    · rintro ⟨_, a⟩ t ht h1 h2
      obtain ⟨_, a⟩ := le_hi.mp a
      apply Classical.byContradiction
      intro c
      have := a (t.1, t.2.1) (mem_sunk.mpr ⟨t, ht, by omega, rfl⟩) h2
      dsimp only at this
      split at this <;> omega
    · intro a
      refine ⟨Int.le_trans (lot_near hx).1 (by omega), le_hi.mpr ⟨by omega, fun p hp hx' => ?_⟩⟩
      obtain ⟨t, ht, hw, rfl⟩ := mem_sunk.mp hp
      dsimp only at hx' ⊢
      have := a t ht
      split <;> omega
theorem hi_in {rs : Row} {x w : Int} (hx : 0 ≤ x ∧ x < 1 + tot rs) : 0 ≤ hiL rs x w ∧ hiL rs x w < 1 + tot rs := by
  have := (lot_near (w := w) hx).2
  have := (le_hi.mp (Int.le_refl (hiL rs x w))).1
  omega
theorem eq_of_le {a b : Int} (h : ∀ y, a ≤ y ↔ b ≤ y) : a = b := Int.le_antisymm ((h b).mpr (Int.le_refl _)) ((h a).mp (Int.le_refl _))
theorem eq_of_ge {a b : Int} (h : ∀ y, y ≤ a ↔ y ≤ b) : a = b := Int.le_antisymm ((h a).mp (Int.le_refl _)) ((h b).mpr (Int.le_refl _))
theorem lot_lo {rs : Row} (hp : ∀ r ∈ rs, 1 ≤ r.1 ∧ 0 ≤ r.2) {x w : Int} (hx : 0 ≤ x ∧ x < 1 + tot rs) : loL rs (hiL rs x w) w = loL rs x w := by
  have hz := (lot_near (w := w) hx).2
  have hh := (le_hi.mp (Int.le_refl (hiL rs x w))).2
  generalize hiL rs x w = z at hz hh
  refine eq_of_le fun y => ?_
  rw [lo_le, lo_le]
  refine and_congr_right fun _ => ⟨fun h p hp' hx' => ?_, fun h p hp' hx' => ?_⟩
  · have := h p hp' (by omega)
    split at this <;> split <;> omega
  · have a := h p hp'
    have b := hh p hp'
    have c := sunk_in hp hp'
    split at a <;> split at b <;> split <;> omega
theorem lot_hi {rs : Row} (hp : ∀ r ∈ rs, 1 ≤ r.1 ∧ 0 ≤ r.2) {x w : Int} (hx : 0 ≤ x ∧ x < 1 + tot rs) : hiL rs (hiL rs x w) w = hiL rs x w := by
  refine Int.le_antisymm ?_ (lot_near (hi_in hx)).2
  have hz := (lot_near (w := w) hx).2
  have hh := (le_hi.mp (Int.le_refl (hiL rs x w))).2
  have hk := le_hi.mp (Int.le_refl (hiL rs (hiL rs x w) w))
  rw [le_hi (x := x)]
  generalize hiL rs (hiL rs x w) w = y at hk ⊢
  generalize hiL rs x w = z at hz hh hk
  refine ⟨hk.1, fun p hp' hx' => ?_⟩
  have a := hk.2 p hp'
  have b := hh p hp' hx'
  have c := sunk_in hp hp'
  split at a <;> split at b <;> split <;> omega
theorem lot_free {rs : Row} (hp : ∀ r ∈ rs, 1 ≤ r.1 ∧ 0 ≤ r.2) {x w : Int} (hx : 0 ≤ x ∧ x < 1 + tot rs) (hlt : loL rs x w < hiL rs x w) : ∀ t ∈ runsL 0 rs, t.1 < hiL rs x w → loL rs x w < t.2.1 → w < t.2.2 := fun t ht h1 h2 => by
  apply Classical.byContradiction
  intro c
  have m : (t.1, t.2.1) ∈ sunkL rs w := mem_sunk.mpr ⟨t, ht, by omega, rfl⟩
  have a := (lo_le.mp (Int.le_refl (loL rs x w))).2 _ m
  have b := (le_hi.mp (Int.le_refl (hiL rs x w))).2 _ m
  have d := sunk_in hp m
  have e := lot_near (w := w) hx
  dsimp only at a b d
  split at a <;> split at b <;> omega
theorem block {w : Int} : ∀ {rs : Row} {o c lo hi : Int}, (∀ r ∈ rs, 1 ≤ r.1 ∧ 0 ≤ r.2) → 1 ≤ c → o - c + 1 ≤ lo → lo < hi → hi ≤ o + tot rs → (∀ t ∈ runsL o rs, t.1 < hi → lo < t.2.1 → w < t.2.2) → ∃ s ∈ glots w c rs, hi - lo + 1 ≤ s
  | [], o, c, lo, hi, _, hc, h1, h2, h3, _ => ⟨c, by simp [glots], by unfold tot at h3; simp at h3; omega⟩
  | r :: rs, o, c, lo, hi, hp, hc, h1, h2, h3, hf => by
    have hr := hp r List.mem_cons_self
    have hp' : ∀ r ∈ rs, 1 ≤ r.1 ∧ 0 ≤ r.2 := fun y hy => hp y (List.mem_cons_of_mem _ hy)
    rw [tot_cons] at h3
    have hf' : ∀ t ∈ runsL (o + r.1) rs, t.1 < hi → lo < t.2.1 → w < t.2.2 := fun t ht => hf t (List.mem_cons_of_mem _ ht)
    have h0 := hf (o, o + r.1, r.2) List.mem_cons_self
    dsimp only at h0
    show ∃ s ∈ (if w < r.2 then glots w (c + r.1) rs else c :: glots w 1 rs), _
    split
    · exact block hp' (by omega) (by omega) h2 (by omega) hf'
    · by_cases k : hi ≤ o
      · exact ⟨c, List.mem_cons_self, by omega⟩
      · obtain ⟨s, a, b⟩ := block (c := 1) hp' (by omega) (show o + r.1 - 1 + 1 ≤ lo by omega) h2 (by omega) hf'
        exact ⟨s, List.mem_cons_of_mem _ a, b⟩
theorem lot_size {rs : Row} (hp : ∀ r ∈ rs, 1 ≤ r.1 ∧ 0 ≤ r.2) {x w : Int} (hx : 0 ≤ x ∧ x < 1 + tot rs) : hiL rs x w - loL rs x w + 1 ≤ greatest rs w := by
  by_cases hlt : loL rs x w < hiL rs x w
  · have h0 := (lo_le.mp (Int.le_refl (loL rs x w))).1
    have h1 := (hi_in (w := w) hx).2
    obtain ⟨s, a, b⟩ := block (w := w) (o := 0) (c := 1) hp (Int.le_refl 1) (by omega) hlt (by omega) (lot_free hp hx hlt)
    exact Int.le_trans b (le_greatest a)
  · obtain ⟨n, ns, e⟩ := glots_cons w rs 1
    have m : n ∈ glots w 1 rs := by rw [e]; exact List.mem_cons_self
    have := (glots_bound hp (Int.le_refl 1) m).1
    have := le_greatest m
    omega
/-! ## the least water -/
theorem floor_in (rs : Row) {v : Int} (h : 0 ≤ v) : ∃ u ∈ 0 :: hts rs, u ≤ v ∧ ∀ r ∈ rs, (r.2 ≤ u ↔ r.2 ≤ v) := by
  let ns := (hts rs).filter fun y => decide (y ≤ v)
  obtain ⟨h1, h2⟩ := maxI_le ns 0
  have h3 := maxI_mem ns 0
  have hv : maxI ns 0 ≤ v := by
    rcases List.mem_cons.mp h3 with e | e
    · omega
    · exact of_decide_eq_true (List.mem_filter.mp e).2
  refine ⟨maxI ns 0, ?_, hv, fun r hr => ⟨fun a => by omega, fun a => h2 _ (List.mem_filter.mpr ⟨mem_hts hr, decide_eq_true a⟩)⟩⟩
  rcases List.mem_cons.mp h3 with e | e
  · rw [e]; exact List.mem_cons_self
  · exact List.mem_cons_of_mem _ (List.mem_filter.mp e).1
theorem least_some {rs : Row} (hp : ∀ r ∈ rs, 1 ≤ r.1 ∧ 0 ≤ r.2) {n : Int} (hn : n ≤ 1 + tot rs) : ∃ m, leastW rs n = some m ∧ n ≤ lotsAt rs m ∧ (0 < m → lotsAt rs (m - 1) < n) := by
  unfold leastW
  have mem : ∀ {u : Int}, u ∈ (ascI (0 :: hts rs)).filter (fun w => decide (n ≤ lotsAt rs w)) ↔ u ∈ 0 :: hts rs ∧ n ≤ lotsAt rs u := fun {u} => by
    rw [List.mem_filter, mem_ascI, decide_eq_true_iff]
  have ht : topW rs ∈ 0 :: hts rs := by
    rcases List.mem_cons.mp (List.getLast_mem (show waters rs ≠ [] from List.cons_ne_nil _ _)) with e | e
    · show (waters rs).getLast _ ∈ _
      rw [e]
      exact List.mem_cons_self
    · exact List.mem_cons_of_mem _ (mem_ascI.mp e)
  have h0 := mem.mpr ⟨ht, by rw [counts_last hp]; exact hn⟩
  cases e : (ascI (0 :: hts rs)).filter (fun w => decide (n ≤ lotsAt rs w)) with
  | nil => rw [e] at h0; cases h0
  | cons m ms =>
    have hm := minI_mem ms m
    rw [← e] at hm
    refine ⟨minI ms m, rfl, (mem.mp hm).2, fun pos => ?_⟩
    apply Classical.byContradiction
    intro c
    obtain ⟨u, a, b, d⟩ := floor_in rs (v := minI ms m - 1) (by omega)
    have k : u ∈ (ascI (0 :: hts rs)).filter (fun w => decide (n ≤ lotsAt rs w)) := mem.mpr ⟨a, by rw [lotsAt_eq, sub_same d, ← lotsAt_eq]; omega⟩
    rw [e] at k
    obtain ⟨l1, l2⟩ := minI_le ms m
    rcases List.mem_cons.mp k with rfl | k
    · omega
    · have := l2 u k
      omega
theorem least_none {rs : Row} (hp : ∀ r ∈ rs, 1 ≤ r.1 ∧ 0 ≤ r.2) : leastW rs (1 + tot rs + 1) = none := by
  unfold leastW
  rw [List.filter_eq_nil_iff.mpr]
  intro u _ h
  have := of_decide_eq_true h
  rw [lotsAt_eq] at this
  have := (sub_le hp u).2
  omega
end Sm

set_option maxHeartbeats 400000
namespace Sm
open PySem PySem.Spec PyProof.Rows L2 Lf

/-! ## one row behind another -/
theorem tot_app (as bs : Row) : tot (as ++ bs) = tot as + tot bs := by
  unfold tot
  rw [List.map_append, List.sum_append]
theorem sub_app (as bs : Row) (w : Int) : sub (as ++ bs) w = sub as w + sub bs w := by
  unfold sub
  rw [List.filter_append, List.map_append, List.sum_append]
theorem runs_app : ∀ (as bs : Row) (o : Int), runsL o (as ++ bs) = runsL o as ++ runsL (o + tot as) bs
  | [], bs, o => by
    show runsL o bs = runsL (o + 0) bs
    rw [Int.add_zero]
  | r :: as, bs, o => by
    show (o, o + r.1, r.2) :: runsL (o + r.1) (as ++ bs) = (o, o + r.1, r.2) :: (runsL (o + r.1) as ++ runsL (o + tot (r :: as)) bs)
    rw [runs_app as bs, tot_cons, Int.add_assoc]
theorem runs_shift : ∀ (rs : Row) (o x : Int) (t : Int × Int × Int), t ∈ runsL (o + x) rs ↔ ∃ u ∈ runsL o rs, t = (u.1 + x, u.2.1 + x, u.2.2)
  | [], o, x, t => by simp [runsL]
  | r :: rs, o, x, t => by
    show t ∈ (o + x, o + x + r.1, r.2) :: runsL (o + x + r.1) rs ↔ ∃ u ∈ (o, o + r.1, r.2) :: runsL (o + r.1) rs, _
    rw [List.mem_cons, show o + x + r.1 = o + r.1 + x by omega, runs_shift rs (o + r.1) x]
    constructor
    · rintro (rfl | ⟨u, h, rfl⟩)
      · exact ⟨_, List.mem_cons_self, rfl⟩
      · exact ⟨u, List.mem_cons_of_mem _ h, rfl⟩
    · rintro ⟨u, h, rfl⟩
      rcases List.mem_cons.mp h with rfl | h
      · exact .inl rfl
      · exact .inr ⟨u, h, rfl⟩
/-- what the runs of the whole are -/
theorem runs_mid (es ls : Row) (h : Int) (t : Int × Int × Int) : t ∈ runsL 0 (es ++ (1, h) :: ls) ↔ t ∈ runsL 0 es ∨ t = (tot es, tot es + 1, h) ∨ ∃ u ∈ runsL 0 ls, t = (u.1 + (tot es + 1), u.2.1 + (tot es + 1), u.2.2) := by
  rw [runs_app, List.mem_append, Int.zero_add]
  show _ ∨ t ∈ (tot es, tot es + 1, h) :: runsL (tot es + 1) ls ↔ _
  rw [List.mem_cons]
  have := runs_shift ls 0 (tot es + 1) t
  rw [Int.zero_add] at this
  rw [this]
theorem tot_mid (es ls : Row) (h : Int) : tot (es ++ (1, h) :: ls) = tot es + 1 + tot ls := by
  rw [tot_app, tot_cons]
  dsimp only
  omega
theorem lots_mid (es ls : Row) (h w : Int) : lotsAt (es ++ (1, h) :: ls) w = lotsAt es w + lotsAt ls w - (if w < h then 1 else 0) := by
  rw [lotsAt_eq, lotsAt_eq, lotsAt_eq, sub_app, sub_cons]
  dsimp only
  by_cases c : w < h
  · rw [if_neg (by omega), if_pos c]; omega
  · rw [if_pos (by omega), if_neg c]; omega
theorem ok_mid {es ls : Row} (he : RowOk es) (hl : RowOk ls) (h1 : es.length ≤ 9) (h2 : ls.length ≤ 9) {h : Int} (hh : 0 ≤ h) : RowOk (es ++ (1, h) :: ls) := by
  refine ⟨fun r hr => ?_, by rw [List.length_append, List.length_cons]; omega⟩
  rcases List.mem_append.mp hr with hr | hr
  · exact he.pos r hr
  · rcases List.mem_cons.mp hr with rfl | hr
    · exact ⟨Int.le_refl _, hh⟩
    · exact hl.pos r hr
/-! the height between -/
theorem last_left {es ls : Row} (he : RowOk es) (hW : RowOk (es ++ (1, h) :: ls)) {x : Int} (h0 : 0 ≤ x) (h1 : x < tot es) : lastH (es ++ (1, h) :: ls) x (tot es) = lastH es x (tot es) := by
  have htl : 0 ≤ tot ls := tot_nonneg fun r hr => hW.pos r (List.mem_append.mpr (.inr (List.mem_cons_of_mem _ hr)))
  have tm := tot_mid es ls h
  have key : ∀ w, w < lastH (es ++ (1, h) :: ls) x (tot es) ↔ w < lastH es x (tot es) := fun w => by
    rw [lt_lastH hW h0 h1 (by omega), lt_lastH he h0 h1 (by omega)]
    constructor
    · intro k t ht
      exact k t ((runs_mid es ls h t).mpr (.inl ht))
    · intro k t ht a b
      rcases (runs_mid es ls h t).mp ht with ht | rfl | ⟨u, hu, rfl⟩
      · exact k t ht a b
      · dsimp only at a; omega
      · have := runsL_in (fun r hr => hW.pos r (List.mem_append.mpr (.inr (List.mem_cons_of_mem _ hr)))) hu
        dsimp only at a
        omega
  have a := key (lastH es x (tot es))
  have b := key (lastH (es ++ (1, h) :: ls) x (tot es))
  omega
/-- which heights lie on the way from x of the first to y of the second -/
def sides (es ls : Row) (x y : Int) : List Int := (if x < tot es then [lastH es x (tot es)] else []) ++ (if 0 < y then [lastH ls 0 y] else [])
theorem last_mid {es ls : Row} {h : Int} (he : RowOk es) (hl : RowOk ls) (hW : RowOk (es ++ (1, h) :: ls)) {x y : Int} (x0 : 0 ≤ x) (x1 : x < 1 + tot es) (y0 : 0 ≤ y) (y1 : y < 1 + tot ls) :
    lastH (es ++ (1, h) :: ls) x (1 + tot es + y) = minI (sides es ls x y) h := by
  have tm := tot_mid es ls h
  have key : ∀ w, w < lastH (es ++ (1, h) :: ls) x (1 + tot es + y) ↔ w + 1 ≤ minI (sides es ls x y) h := fun w => by
    rw [lt_lastH hW x0 (by omega) (by omega), le_minI_iff]
    have sd : (∀ s ∈ sides es ls x y, w + 1 ≤ s) ↔ (x < tot es → w < lastH es x (tot es)) ∧ (0 < y → w < lastH ls 0 y) := by
      unfold sides
      by_cases c : x < tot es <;> by_cases d : 0 < y <;> simp [c, d] <;> omega
    rw [sd]
    constructor
    · intro k
      refine ⟨?_, fun c => ?_, fun d => ?_⟩
      · have := k _ ((runs_mid es ls h _).mpr (.inr (.inl rfl))) (by dsimp only; omega) (by dsimp only; omega)
        dsimp only at this
        omega
      · rw [lt_lastH he x0 c (by omega)]
        intro t ht a b
        exact k t ((runs_mid es ls h t).mpr (.inl ht)) (by omega) b
      · rw [lt_lastH hl (Int.le_refl _) d y1]
        intro t ht a b
        have := k _ ((runs_mid es ls h _).mpr (.inr (.inr ⟨t, ht, rfl⟩))) (by dsimp only; omega) (by dsimp only; omega)
        exact this
    · rintro ⟨k0, k1, k2⟩ t ht a b
      rcases (runs_mid es ls h t).mp ht with ht | rfl | ⟨u, hu, rfl⟩
      · have i := runsL_in he.pos ht
        have c : x < tot es := by omega
        exact (lt_lastH he x0 c (by omega)).mp (k1 c) t ht (by omega) b
      · dsimp only; omega
      · have i := runsL_in hl.pos hu
        dsimp only at a b ⊢
        have d : 0 < y := by omega
        exact (lt_lastH hl (Int.le_refl _) d y1).mp (k2 d) u hu (by omega) (by omega)
  have a := key (minI (sides es ls x y) h - 1)
  have b := key (lastH (es ++ (1, h) :: ls) x (1 + tot es + y) - 1)
  omega
/-! the waters -/
theorem waters_mid (es ls : Row) (h : Int) : ascI (ascI (hts es) ++ ascI (hts ls) ++ [h]) = ascI (hts (es ++ (1, h) :: ls)) :=
  up_unique (ascI_up _) (ascI_up _) fun z => by
    rw [mem_ascI, mem_ascI, List.mem_append, List.mem_append, mem_ascI, mem_ascI]
    unfold hts
    rw [List.map_append, List.map_cons, List.mem_append, List.mem_singleton, List.mem_cons]
    constructor
    · rintro ((a | a) | a)
      · exact .inl a
      · exact .inr (.inr a)
      · exact .inr (.inl a)
    · rintro (a | a | a)
      · exact .inl (.inl a)
      · exact .inr a
      · exact .inl (.inr a)
/-! the lot -/
theorem sunk_mid (es ls : Row) (h w : Int) (p : Int × Int) : p ∈ sunkL (es ++ (1, h) :: ls) w ↔ p ∈ sunkL es w ∨ (h ≤ w ∧ p = (tot es, tot es + 1)) ∨ ∃ q ∈ sunkL ls w, p = (q.1 + (tot es + 1), q.2 + (tot es + 1)) := by
  rw [mem_sunk]
  constructor
  · rintro ⟨t, a, b, rfl⟩
    rcases (runs_mid es ls h t).mp a with a | rfl | ⟨u, hu, rfl⟩
    · exact .inl (mem_sunk.mpr ⟨t, a, b, rfl⟩)
    · exact .inr (.inl ⟨b, rfl⟩)
    · exact .inr (.inr ⟨(u.1, u.2.1), mem_sunk.mpr ⟨u, hu, b, rfl⟩, rfl⟩)
  · rintro (a | ⟨a, rfl⟩ | ⟨q, a, rfl⟩)
    · obtain ⟨t, c, b, rfl⟩ := mem_sunk.mp a
      exact ⟨t, (runs_mid es ls h t).mpr (.inl c), b, rfl⟩
    · exact ⟨_, (runs_mid es ls h _).mpr (.inr (.inl rfl)), a, rfl⟩
    · obtain ⟨t, c, b, rfl⟩ := mem_sunk.mp a
      exact ⟨_, (runs_mid es ls h _).mpr (.inr (.inr ⟨t, c, rfl⟩)), b, rfl⟩
theorem hi_mid {es ls : Row} {h : Int} (he : RowOk es) (hl : RowOk ls) (w : Int) : hiL (es ++ (1, h) :: ls) (1 + tot es) w = 1 + tot es + hiL ls 0 w := by
  have tm := tot_mid es ls h
  refine eq_of_ge fun y => ?_
  have e2 : y ≤ 1 + tot es + hiL ls 0 w ↔ y - (1 + tot es) ≤ hiL ls 0 w := by omega
  rw [e2, le_hi, le_hi]
  constructor
  · rintro ⟨a, b⟩
    refine ⟨by omega, fun p hp h0 => ?_⟩
    have i := sunk_in hl.pos hp
    have := b _ ((sunk_mid es ls h w _).mpr (.inr (.inr ⟨p, hp, rfl⟩))) (by dsimp only; omega)
    dsimp only at this
    split at this <;> split <;> omega
  · rintro ⟨a, b⟩
    refine ⟨by omega, fun p hp h0 => ?_⟩
    rcases (sunk_mid es ls h w p).mp hp with hp | ⟨_, rfl⟩ | ⟨q, hq, rfl⟩
    · have i := sunk_in he.pos hp
      omega
    · dsimp only at h0
      omega
    · have i := sunk_in hl.pos hq
      have := b q hq (by omega)
      dsimp only at h0 ⊢
      split at this <;> split <;> omega
theorem lo_mid {es ls : Row} {h : Int} (he : RowOk es) (hl : RowOk ls) (w : Int) : loL (es ++ (1, h) :: ls) (1 + tot es) w = if w < h then loL es (tot es) w else 1 + tot es := by
  have t0 := tot_nonneg he.pos
  have l0 := (lot_near (rs := es) (x := tot es) (w := w) ⟨t0, by omega⟩).1
  refine eq_of_le fun y => ?_
  rw [lo_le]
  by_cases c : w < h
  · rw [if_pos c, lo_le]
    refine and_congr_right fun y0 => ⟨fun b p hp h0 => ?_, fun b p hp h0 => ?_⟩
    · have i := sunk_in he.pos hp
      have := b p ((sunk_mid es ls h w p).mpr (.inl hp)) (by omega)
      split at this <;> split <;> omega
    · rcases (sunk_mid es ls h w p).mp hp with hp | ⟨d, _⟩ | ⟨q, hq, rfl⟩
      · have i := sunk_in he.pos hp
        have := b p hp (by omega)
        split at this <;> split <;> omega
      · omega
      · have i := sunk_in hl.pos hq
        dsimp only at h0
        omega
  · rw [if_neg c]
    constructor
    · rintro ⟨y0, b⟩
      have := b _ ((sunk_mid es ls h w _).mpr (.inr (.inl ⟨by omega, rfl⟩))) (by dsimp only; omega)
      dsimp only at this
      split at this <;> omega
    · intro a
      refine ⟨by omega, fun p _ _ => ?_⟩
      split <;> omega
/-! the pairs -/
def lastB (w : Int) : Int → Row → Int
  | c, [] => c
  | c, r :: rs => if w < r.2 then lastB w (c + r.1) rs else lastB w 1 rs
def firstB (w : Int) : Int → Row → Int
  | c, [] => c
  | c, r :: rs => if w < r.2 then firstB w (c + r.1) rs else c
theorem jn_app (w : Int) : ∀ (as bs : Row) (c : Int), jn w c (as ++ bs) = jn w c as - pairsOf (lastB w c as) + jn w (lastB w c as) bs
  | [], bs, c => by
    rw [jn_nil]
    show jn w c bs = _ - pairsOf c + jn w c bs
    omega
  | r :: as, bs, c => by
    show jn w c (r :: (as ++ bs)) = jn w c (r :: as) - pairsOf (if w < r.2 then lastB w (c + r.1) as else lastB w 1 as) + jn w (if w < r.2 then lastB w (c + r.1) as else lastB w 1 as) bs
    rw [jn_cons, jn_cons]
    split
    · exact jn_app w as bs _
    · have := jn_app w as bs 1
      omega
theorem firstB_add (w : Int) : ∀ (rs : Row) (c x : Int), firstB w (c + x) rs = firstB w c rs + x
  | [], c, x => rfl
  | r :: rs, c, x => by
    show (if w < r.2 then firstB w (c + x + r.1) rs else c + x) = (if w < r.2 then firstB w (c + r.1) rs else c) + x
    split
    · rw [show c + x + r.1 = c + r.1 + x by omega]
      exact firstB_add w rs _ _
    · rfl
theorem jn_first (w : Int) : ∀ (rs : Row) (c x : Int), jn w (c + x) rs = jn w c rs - pairsOf (firstB w c rs) + pairsOf (firstB w c rs + x)
  | [], c, x => by
    rw [jn_nil, jn_nil]
    show _ = pairsOf c - pairsOf c + pairsOf (c + x)
    omega
  | r :: rs, c, x => by
    show jn w (c + x) (r :: rs) = jn w c (r :: rs) - pairsOf (if w < r.2 then firstB w (c + r.1) rs else c) + pairsOf ((if w < r.2 then firstB w (c + r.1) rs else c) + x)
    rw [jn_cons, jn_cons]
    split
    · rw [show c + x + r.1 = c + r.1 + x by omega]
      exact jn_first w rs _ _
    · omega
theorem pairs_one : pairsOf 1 = 0 := rfl
theorem joined_mid (es ls : Row) (h w : Int) : joinedAt (es ++ (1, h) :: ls) w = joinedAt es w + joinedAt ls w + (if w < h then lastB w 1 es * firstB w 1 ls else 0) := by
  show jn w 1 (es ++ (1, h) :: ls) = jn w 1 es + jn w 1 ls + _
  rw [jn_app, jn_cons]
  dsimp only
  split
  · rw [show lastB w 1 es + 1 = 1 + lastB w 1 es by omega, jn_first, tri_add, Int.mul_comm (firstB w 1 ls)]
    omega
  · omega
theorem maxI_step (n m : Int) (ns : List Int) : maxI (n :: ns) m = maxI ns (if n > m then n else m) := rfl
theorem lastB_eq (w : Int) : ∀ (rs : Row) (o c : Int), (∀ r ∈ rs, 1 ≤ r.1 ∧ 0 ≤ r.2) → 1 ≤ c → lastB w c rs = o + tot rs + 1 - maxI (((runsL o rs).filter fun t => decide (t.2.2 ≤ w)).map fun t => t.2.1) (o + 1 - c)
  | [], o, c, _, hc => by
    show c = o + 0 + 1 - (o + 1 - c)
    omega
  | r :: rs, o, c, hp, hc => by
    have hr := hp r List.mem_cons_self
    have hp' : ∀ r ∈ rs, 1 ≤ r.1 ∧ 0 ≤ r.2 := fun y hy => hp y (List.mem_cons_of_mem _ hy)
    show (if w < r.2 then lastB w (c + r.1) rs else lastB w 1 rs) = o + tot (r :: rs) + 1 - maxI ((((o, o + r.1, r.2) :: runsL (o + r.1) rs).filter fun t => decide (t.2.2 ≤ w)).map fun t => t.2.1) (o + 1 - c)
    rw [tot_cons, List.filter_cons]
    by_cases k : w < r.2
    · rw [if_pos k, if_neg (by simp; omega), lastB_eq w rs (o + r.1) (c + r.1) hp' (by omega), show o + r.1 + 1 - (c + r.1) = o + 1 - c by omega]
      omega
    · rw [if_neg k, if_pos (by simp; omega), List.map_cons, maxI_step, if_pos (by dsimp only; omega), lastB_eq w rs (o + r.1) 1 hp' (by omega), show o + r.1 + 1 - 1 = o + r.1 by omega]
      dsimp only
      omega
theorem last_block {es : Row} (he : RowOk es) (w : Int) : lastB w 1 es = 1 + tot es - loL es (tot es) w := by
  rw [lastB_eq w es 0 1 he.pos (Int.le_refl _)]
  have e : maxI (((runsL 0 es).filter fun t => decide (t.2.2 ≤ w)).map fun t => t.2.1) (0 + 1 - 1) = loL es (tot es) w := by
    refine eq_of_le fun y => ?_
    rw [maxI_le_iff, lo_le]
    refine and_congr (by omega) ⟨fun b p hp h0 => ?_, fun b z hz => ?_⟩
    · obtain ⟨t, a, c, rfl⟩ := mem_sunk.mp hp
      have i := runsL_in he.pos a
      have := b t.2.1 (List.mem_map.mpr ⟨t, List.mem_filter.mpr ⟨a, decide_eq_true c⟩, rfl⟩)
      dsimp only
      split <;> omega
    · obtain ⟨t, a, rfl⟩ := List.mem_map.mp hz
      obtain ⟨a, c⟩ := List.mem_filter.mp a
      have i := runsL_in he.pos a
      have := b _ (mem_sunk.mpr ⟨t, a, of_decide_eq_true c, rfl⟩) (by dsimp only; omega)
      dsimp only at this
      split at this <;> omega
  rw [e]
  omega
theorem firstB_eq (w : Int) : ∀ (rs : Row) (o c : Int), (∀ r ∈ rs, 1 ≤ r.1 ∧ 0 ≤ r.2) → firstB w c rs = c - o + minI (((runsL o rs).filter fun t => decide (t.2.2 ≤ w)).map fun t => t.1) (o + tot rs)
  | [], o, c, _ => by
    show c = c - o + (o + 0)
    omega
  | r :: rs, o, c, hp => by
    have hr := hp r List.mem_cons_self
    have hp' : ∀ r ∈ rs, 1 ≤ r.1 ∧ 0 ≤ r.2 := fun y hy => hp y (List.mem_cons_of_mem _ hy)
    have ht := tot_nonneg hp'
    show (if w < r.2 then firstB w (c + r.1) rs else c) = c - o + minI ((((o, o + r.1, r.2) :: runsL (o + r.1) rs).filter fun t => decide (t.2.2 ≤ w)).map fun t => t.1) (o + tot (r :: rs))
    rw [tot_cons, List.filter_cons]
    by_cases k : w < r.2
    · rw [if_pos k, if_neg (by simp; omega), firstB_eq w rs (o + r.1) (c + r.1) hp', Int.add_assoc o]
      omega
    · rw [if_neg k, if_pos (by simp; omega), List.map_cons]
      have e : minI ((o : Int) :: ((runsL (o + r.1) rs).filter fun t => decide (t.2.2 ≤ w)).map fun t => t.1) (o + (r.1 + tot rs)) = o := by
        refine Int.le_antisymm ((minI_le _ _).2 o List.mem_cons_self) (le_minI_iff.mpr ⟨by omega, fun y hy => ?_⟩)
        rcases List.mem_cons.mp hy with rfl | hy
        · exact Int.le_refl _
        · obtain ⟨t, a, rfl⟩ := List.mem_map.mp hy
          have i := runsL_in hp' (List.mem_filter.mp a).1
          omega
      rw [e]
      omega
theorem first_block {ls : Row} (hl : RowOk ls) (w : Int) : firstB w 1 ls = hiL ls 0 w + 1 := by
  rw [firstB_eq w ls 0 1 hl.pos]
  have e : minI (((runsL 0 ls).filter fun t => decide (t.2.2 ≤ w)).map fun t => t.1) (0 + tot ls) = hiL ls 0 w := by
    refine eq_of_ge fun y => ?_
    rw [le_minI_iff, le_hi]
    refine and_congr (by omega) ⟨fun b p hp h0 => ?_, fun b z hz => ?_⟩
    · obtain ⟨t, a, c, rfl⟩ := mem_sunk.mp hp
      have i := runsL_in hl.pos a
      have := b t.1 (List.mem_map.mpr ⟨t, List.mem_filter.mpr ⟨a, decide_eq_true c⟩, rfl⟩)
      dsimp only
      split <;> omega
    · obtain ⟨t, a, rfl⟩ := List.mem_map.mp hz
      obtain ⟨a, c⟩ := List.mem_filter.mp a
      have i := runsL_in hl.pos a
      have := b _ (mem_sunk.mpr ⟨t, a, of_decide_eq_true c, rfl⟩) (by dsimp only; omega)
      dsimp only at this
      split at this <;> omega
  rw [e]
  omega
/-! the mirror -/
def addHead (x : Int) : List Int → List Int
  | [] => []
  | n :: ns => (n + x) :: ns
def addLast (x : Int) (ns : List Int) : List Int := (addHead x ns.reverse).reverse
theorem glots_head (w : Int) : ∀ (rs : Row) (c x : Int), glots w (c + x) rs = addHead x (glots w c rs)
  | [], c, x => rfl
  | r :: rs, c, x => by
    show (if w < r.2 then glots w (c + x + r.1) rs else (c + x) :: glots w 1 rs) = addHead x (if w < r.2 then glots w (c + r.1) rs else c :: glots w 1 rs)
    split
    · rw [show c + x + r.1 = c + r.1 + x by omega]
      exact glots_head w rs _ _
    · rfl
theorem addLast_cons {x n m : Int} {ns : List Int} : addLast x (n :: m :: ns) = n :: addLast x (m :: ns) := by
  unfold addLast
  rw [List.reverse_cons]
  obtain ⟨a, as, e⟩ : ∃ a as, (m :: ns).reverse = a :: as := by
    cases e : (m :: ns).reverse with
    | nil => simp at e
    | cons a as => exact ⟨a, as, rfl⟩
  rw [e]
  show ((a + x) :: (as ++ [n])).reverse = n :: ((a + x) :: as).reverse
  simp
theorem glots_snoc (w : Int) (q : Int × Int) : ∀ (rs : Row) (c : Int), glots w c (rs ++ [q]) = if w < q.2 then addLast q.1 (glots w c rs) else glots w c rs ++ [1]
  | [], c => by
    show (if w < q.2 then glots w (c + q.1) [] else c :: glots w 1 []) = _
    split <;> rfl
  | r :: rs, c => by
    show (if w < r.2 then glots w (c + r.1) (rs ++ [q]) else c :: glots w 1 (rs ++ [q])) = if w < q.2 then addLast q.1 (if w < r.2 then glots w (c + r.1) rs else c :: glots w 1 rs) else (if w < r.2 then glots w (c + r.1) rs else c :: glots w 1 rs) ++ [1]
    by_cases k : w < r.2
    · rw [if_pos k, if_pos k]
      exact glots_snoc w q rs _
    · rw [if_neg k, if_neg k, glots_snoc w q rs 1]
      split
      · obtain ⟨m, ns, e⟩ := glots_cons w rs 1
        rw [e, addLast_cons]
      · rfl
theorem glots_rev (w : Int) : ∀ rs : Row, glots w 1 rs.reverse = (glots w 1 rs).reverse
  | [] => rfl
  | r :: rs => by
    rw [List.reverse_cons, glots_snoc, glots_rev w rs]
    show _ = (if w < r.2 then glots w (1 + r.1) rs else 1 :: glots w 1 rs).reverse
    split
    · rw [glots_head]
      unfold addLast
      rw [List.reverse_reverse]
    · rw [List.reverse_cons]
theorem max_any {xs ys : List Int} {n m : Int} {ns ms : List Int} (e : xs = n :: ns) (e' : ys = m :: ms) (h : ∀ z, z ∈ xs ↔ z ∈ ys) : maxI ns n = maxI ms m := by
  subst e e'
  have a := maxI_mem ns n
  have b := maxI_mem ms m
  have c : ∀ z ∈ n :: ns, z ≤ maxI ns n := fun z hz => by
    obtain ⟨h1, h2⟩ := maxI_le ns n
    rcases List.mem_cons.mp hz with rfl | hz
    · exact h1
    · exact h2 z hz
  have d : ∀ z ∈ m :: ms, z ≤ maxI ms m := fun z hz => by
    obtain ⟨h1, h2⟩ := maxI_le ms m
    rcases List.mem_cons.mp hz with rfl | hz
    · exact h1
    · exact h2 z hz
  exact Int.le_antisymm (d _ ((h _).mp a)) (c _ ((h _).mpr b))
theorem greatest_rev (rs : Row) (w : Int) : greatest rs.reverse w = greatest rs w := by
  obtain ⟨n, ns, e⟩ := glots_cons w rs.reverse 1
  obtain ⟨m, ms, e'⟩ := glots_cons w rs 1
  unfold greatest
  rw [e, e']
  exact max_any e e' fun z => by rw [glots_rev, List.mem_reverse]
theorem joined_rev (rs : Row) (w : Int) : joinedAt rs.reverse w = joinedAt rs w := by
  unfold joinedAt
  rw [glots_rev, List.map_reverse, List.sum_reverse]
theorem sub_rev (rs : Row) (w : Int) : lotsAt rs.reverse w = lotsAt rs w := by
  unfold lotsAt
  rw [List.filter_reverse, List.map_reverse, List.sum_reverse]
theorem ok_rev {rs : Row} (h : RowOk rs) : RowOk rs.reverse := ⟨fun r hr => h.pos r (List.mem_reverse.mp hr), by rw [List.length_reverse]; exact h.len⟩
end Sm

set_option maxHeartbeats 400000
namespace Sm
open PySem PySem.Spec PyProof.Rows L2 Lf

/-! ## the same data -/
theorem eqvAll_ints : ∀ ns : List Int, PyData.eqvAll (ns.map PyData.int) (ns.map PyData.int) = true
  | [] => by simp [PyData.eqvAll]
  | n :: ns => by
    have := eqvAll_ints ns
    simp [PyData.eqvAll, PyData.eqv, this]
theorem lay_ints : ∀ ns : List Int, PyData.canLayAll0 (ns.map PyData.int) = true
  | [] => by simp [PyData.canLayAll0]
  | n :: ns => by
    have := lay_ints ns
    simp [PyData.canLayAll0, PyData.canLay0, this]
theorem deep_ints : ∀ ns : List Int, PyData.depthAll (ns.map PyData.int) = 0
  | [] => by simp [PyData.depthAll]
  | n :: ns => by
    have := deep_ints ns
    simp [PyData.depthAll, PyData.depth, this]
theorem shaped_L (ns : List Int) : SeqAt.shaped (.list (ns.map PyData.int)) = true := by
  simp [SeqAt.shaped, PyData.canLay0, PyData.depth, lay_ints, deep_ints]
theorem shaped_T (ns : List Int) : SeqAt.shaped (.tuple (ns.map PyData.int)) = true := by
  simp [SeqAt.shaped, PyData.canLay0, PyData.depth, lay_ints, deep_ints]
theorem ne_L (ns : List Int) : neF (.list (ns.map PyData.int)) (.list (ns.map PyData.int)) = some (.bool false) := by
  simp [neF, eqP, shaped_L, PyData.eqv, eqvAll_ints]
theorem ne_T (ns : List Int) : neF (.tuple (ns.map PyData.int)) (.tuple (ns.map PyData.int)) = some (.bool false) := by
  simp [neF, eqP, shaped_T, PyData.eqv, eqvAll_ints]
theorem ne_I (i : Int) : neF (.int i) (.int i) = some (.bool false) := by simp [neF, eqP]
theorem ne_B (i : Bool) : neF (.bool i) (.bool i) = some (.bool false) := by simp [neF, eqP]
theorem eq_I (i j : Int) : eqF (.int i) (.int j) = some (.bool (decide (i = j))) := by simp [eqF, eqP]
theorem sort_up {ns : List Int} (h : ns.Pairwise (· ≤ ·)) : sortI ns = ns := le_unique (sortI_up ns) h (sortI_perm ns)
theorem sort_down {ns : List Int} (h : ns.Pairwise (fun a b => b ≤ a)) : (sortI ns).reverse = ns := by
  have k : ns.reverse.Pairwise (· ≤ ·) := List.pairwise_reverse.mpr h
  rw [le_unique (sortI_up ns) k ((sortI_perm ns).trans (List.reverse_perm ns).symm), List.reverse_reverse]
theorem sortF (ns : List Int) : fSortedI [.list (ns.map PyData.int)] = some (.list ((sortI ns).map PyData.int)) := by
  unfold fSortedI
  dsimp only
  rw [asInts_map]
theorem at_last {ds : List PyData} (ne : ds ≠ []) : ixLT (.list ds) (.int (-1)) = some (ds.getLast ne) := by
  show atI ds (-1) = _
  have e : ixN ds.length (-1) = some (ds.length - 1) := by
    have := List.length_pos_iff.mpr ne
    unfold ixN
    rw [if_neg (by decide), if_pos (by omega)]
    congr 1
    omega
  unfold atI
  rw [e]
  show ds[_]? = _
  rw [List.getLast_eq_getElem, List.getElem?_eq_getElem]
theorem at_nat {ds : List PyData} {r : Int} (h0 : 0 ≤ r) (h : r < ds.length) : atI ds r = some (ds[r.toNat]'(by omega)) := by
  have e : ixN ds.length r = some r.toNat := by
    unfold ixN
    rw [if_pos h0, if_pos (by omega)]
  unfold atI
  rw [e]
  show ds[_]? = _
  rw [List.getElem?_eq_getElem]
theorem addD_tt {as bs : List PyData} (h : as.length + bs.length ≤ big) : addD (.tuple as) (.tuple bs) = some (.tuple (as ++ bs)) := by
  simp only [addD, orF, intOp, catL, catT, if_pos h]
theorem addD_ll {as bs : List PyData} (h : as.length + bs.length ≤ big) : addD (.list as) (.list bs) = some (.list (as ++ bs)) := by
  simp only [addD, orF, intOp, catL, if_pos h]
theorem leT {i j : Int} (h : i ≤ j) : leF (.int i) (.int j) = some (.bool true) := by rw [leF_ii, decide_eq_true h]
theorem leN {i j : Int} (h : ¬ i ≤ j) : leF (.int i) (.int j) = some (.bool false) := by rw [leF_ii, decide_eq_false h]
theorem ltN {i j : Int} (h : ¬ i < j) : ltF (.int i) (.int j) = some (.bool false) := by rw [ltF_ii, decide_eq_false h]
theorem gtT {i j : Int} (h : j < i) : gtF (.int i) (.int j) = some (.bool true) := by rw [gtF_ii, decide_eq_true h]
theorem gtN {i j : Int} (h : ¬ j < i) : gtF (.int i) (.int j) = some (.bool false) := by rw [gtF_ii, decide_eq_false h]
theorem geN {i j : Int} (h : ¬ j ≤ i) : geF (.int i) (.int j) = some (.bool false) := by rw [geF_ii, decide_eq_false h]
theorem ev_notY {c : Env → M Bool} {ρ : Env} {S S1 : Sto} (h : c ρ S = .ok true S1) : eNotT c ρ S = .ok false S1 := ev_notT (t := true) h
theorem at0 {a b : PyData} {ρ : Env} {S : Sto} {i : Nat} (h : eV i ρ S = .ok (.d (.tuple [a, b])) S) : e2 (lift2 ixLT) (eV i) (eK (.int 0)) ρ S = .ok (.d a) S := ev_2 h rfl rfl
theorem at1 {a b : PyData} {ρ : Env} {S : Sto} {i : Nat} (h : eV i ρ S = .ok (.d (.tuple [a, b])) S) : e2 (lift2 ixLT) (eV i) (eK (.int 1)) ρ S = .ok (.d b) S := ev_2 h rfl rfl
theorem ev_orV {a b : Ex} {ρ : Env} {S : Sto} {q r : Bool} (h : a ρ S = .ok (.d (.bool q)) S) (k : q = false → b ρ S = .ok (.d (.bool r)) S) : eOr a b ρ S = .ok (.d (.bool (q || r))) S := by
  unfold eOr
  rw [h]
  cases q with
  | true => rfl
  | false => exact k rfl
/-! ## one of some -/
def ofB : Sx := (sRet (e2 (lift2 ixLT) (eV 1) (eArgs (callF 2 takeF) (asCons (eV 0) (asCons (eArgs (liftA fLen) (asCons (eV 1) asNil)) asNil)))))
def ofF : Fn := runF 2 ofB
theorem of_ok {n : Nat} {S : Sto} (u : UrnOk (n + 1) S) {d : PyData} {ds : List PyData} (hd : d = .list ds ∨ d = .tuple ds) (ne : ds ≠ []) (hl : ds.length ≤ 1000) : ∃ x ∈ ds, ∃ S', ofF [.c 0, .d d] S = .ok (.d x) S' ∧ UrnOk n S' := by
  have hp := List.length_pos_iff.mpr ne
  obtain ⟨r, S', e, h0, h1, u'⟩ := take_ok (low := ds.length) u (by omega) (smallI_lt (by omega) (by omega))
  have ea := at_nat h0 h1
  refine ⟨_, List.getElem_mem (show r.toNat < ds.length by omega), S', ?_, u'⟩
  have el : fLen [d] = some (.int ds.length) := by rcases hd with rfl | rfl <;> rfl
  have ei : ixLT d (.int r) = some (ds[r.toNat]'(by omega)) := by rcases hd with rfl | rfl <;> exact ea
  exact fn_rts rfl rfl (.ret (ev_2 (p := d) rfl (ev_c2 rfl (ev_A1 rfl el) rfl rfl e) ei)) rfl
end Sm

set_option maxHeartbeats 400000
namespace Sm
open PySem PySem.Spec PyProof.Rows L2 Lf

/-! ## the law's same, of data and itself -/
def sameB (f_ : Fn) : Sx := (sSeq (sIf (eTest (e1 (lift1 (isi2F .list .tuple)) (eV 1))) (sSeq (sIf (eOrT (eTest (e2 (lift2 neF) (e1 (lift1 (isiF .list)) (eV 0)) (e1 (lift1 (isiF .list)) (eV 1)))) (eTest (e2 (lift2 neF) (e1 (lift1 (isiF .tuple)) (eV 0)) (e1 (lift1 (isiF .tuple)) (eV 1))))) (sRet (eK (.bool false))) sNil)
    (sRet (eAnd (e2 (lift2 eqF) (eArgs (liftA fLen) (asCons (eV 0) asNil)) (eArgs (liftA fLen) (asCons (eV 1) asNil))) (eArgs (liftA fAll) (asCons (eComp (.t [(.n 2), (.n 3)]) (iArgs zip2 (asCons (eV 0) (asCons (eV 1) asNil))) yesT (eArgs (callF 2 f_) (asCons (eV 2) (asCons (eV 3) asNil))) [2, 3]) asNil))))) sNil)
    (sSeq (sIf (eOrT (eTest (e2 (lift2 isF) (eV 1) (eK .none))) (eTest (e1 (lift1 (isi2F .bool .str)) (eV 1)))) (sRet (eAnd (e2 (lift2 eqF) (eV 0) (eV 1)) (eAnd (e2 (lift2 eqF) (e1 (lift1 (isiF .bool)) (eV 0)) (e1 (lift1 (isiF .bool)) (eV 1))) (e2 (lift2 eqF) (e2 (lift2 isF) (eV 0) (eK .none)) (e2 (lift2 isF) (eV 1) (eK .none)))))) sNil)
    (sRet (eAnd (e1 (lift1 (isiF .int)) (eV 0)) (eAnd (eNot (e1 (lift1 (isiF .bool)) (eV 0))) (e2 (lift2 eqF) (eV 0) (eV 1)))))))
def sameF : Nat → Fn
  | 0 => fNo
  | k + 1 => runF 4 (sameB (sameF k))
def simple : Nat → PyData → Bool
  | _, .none => true
  | _, .bool _ => true
  | _, .int _ => true
  | k + 1, .list ds => decide (ds.length ≤ 1000) && ds.all (simple k)
  | k + 1, .tuple ds => decide (ds.length ≤ 1000) && ds.all (simple k)
  | _, _ => false
theorem ev_andY {a b : Ex} {ρ : Env} {S : Sto} {x : Vl} (h : a ρ S = .ok (.d (.bool true)) S) (k : b ρ S = .ok x S) : eAnd a b ρ S = .ok x S := by
  unfold eAnd
  rw [h]
  exact k
theorem eq_B (i : Bool) : eqF (.bool i) (.bool i) = some (.bool true) := by simp [eqF, eqP]
theorem eq_II (i : Int) : eqF (.int i) (.int i) = some (.bool true) := by simp [eqF, eqP]
theorem fAll_yes (n : Nat) : fAll [.list ((List.replicate n PyData.none).map fun _ => PyData.bool true)] = some (.bool true) := by
  have h : ∀ n : Nat, asBools ((List.replicate n PyData.none).map fun _ => PyData.bool true) = some (List.replicate n true) := fun n => by
    induction n with
    | zero => rfl
    | succ n ih =>
      rw [List.replicate_succ, List.map_cons]
      unfold asBools
      rw [ih]
      rfl
  unfold fAll
  dsimp only
  rw [h]
  simp
theorem zip_self (ds : List PyData) : zipD ds ds = ds.map fun d => .tuple [d, d] := by
  unfold zipD
  induction ds with
  | nil => rfl
  | cons d ds ih => rw [List.zipWith_cons_cons, ih, List.map_cons]
theorem same_seq {f : Fn} {S : Sto} {ds : List PyData} (d : PyData) (hd : d = .list ds ∨ d = .tuple ds) (hl : ds.length ≤ 1000) (ih : ∀ x ∈ ds, f [.d x, .d x] S = .ok (.d (.bool true)) S) : runF 4 (sameB f) [.d d, .d d] S = .ok (.d (.bool true)) S := by
  have hc : eComp (.t [(.n 2), (.n 3)]) (iArgs zip2 (asCons (eV 0) (asCons (eV 1) asNil))) yesT (eArgs (callF 2 f) (asCons (eV 2) (asCons (eV 3) asNil))) [2, 3] [some (.d d), some (.d d), none, none] S = .ok (.d (.list (ds.map fun _ => PyData.bool true))) S := by
    have e := eComp_of (pt := .t [(.n 2), (.n 3)]) (fi := iArgs zip2 (asCons (eV 0) (asCons (eV 1) asNil))) (tt := yesT) (elt := eArgs (callF 2 f) (asCons (eV 2) (asCons (eV 3) asNil))) (vs := [2, 3]) (ρ := [some (.d d), some (.d d), none, none]) (S := S)
      (fun x => PyData.tuple [x, x]) (fun _ => true) (fun _ => PyData.bool true) ds (by rw [← zip_self]; rcases hd with rfl | rfl <;> rfl) (Nat.le_trans hl (by decide)) (fun x hx => ⟨_, rfl, rfl, fun _ => ev_c2 rfl rfl rfl rfl (ih x hx)⟩)
    rw [filter_yes] at e
    exact e
  have ha : fAll [.list (ds.map fun _ => PyData.bool true)] = some (.bool true) := by
    have := fAll_yes ds.length
    rw [show (List.replicate ds.length PyData.none).map (fun _ => PyData.bool true) = ds.map fun _ => PyData.bool true by
      rw [List.map_const', List.map_const', List.length_replicate]] at this
    exact this
  have hl1 : fLen [d] = some (.int ds.length) := by rcases hd with rfl | rfl <;> rfl
  have h2 : isi2F .list .tuple d = some (.bool true) := by rcases hd with rfl | rfl <;> rfl
  obtain ⟨b1, h3⟩ : ∃ b, isiF .list d = some (.bool b) := by rcases hd with rfl | rfl <;> exact ⟨_, rfl⟩
  obtain ⟨b2, h4⟩ : ∃ b, isiF .tuple d = some (.bool b) := by rcases hd with rfl | rfl <;> exact ⟨_, rfl⟩
  refine fn_rts (x := .d (.bool true)) rfl rfl (.stop (.ifT (ev_test (ev_1 rfl h2)) (.nx (.ifF (ev_orF (ev_test (ev_2 (ev_1 rfl h3) (ev_1 rfl h3) (ne_B _))) (ev_test (ev_2 (ev_1 rfl h4) (ev_1 rfl h4) (ne_B _)))) .nil) (.ret ?_)))) rfl
  exact ev_andY (ev_2 (ev_A1 rfl hl1) (ev_A1 rfl hl1) (eq_II _)) (ev_A1 hc ha)
theorem same_ok (S : Sto) : ∀ (k : Nat) (d : PyData), simple k d = true → sameF (k + 1) [.d d, .d d] S = .ok (.d (.bool true)) S
  | _, .none, _ => rfl
  | _, .bool b, _ => by cases b <;> rfl
  | _, .int i, _ => fn_rts (x := .d (.bool true)) rfl rfl (.nx (.ifF (ev_test (ev_1 rfl rfl)) .nil) (.nx (.ifF (ev_orF (ev_test (ev_2 rfl rfl rfl)) (ev_test (ev_1 rfl rfl))) .nil) (.ret (ev_andY (ev_1 rfl rfl) (ev_andY rfl (ev_2 rfl rfl (eq_II i))))))) rfl
  | k + 1, .list ds, h => by
    have h' : (decide (ds.length ≤ 1000) && ds.all (simple k)) = true := h
    rw [Bool.and_eq_true] at h'
    exact same_seq _ (.inl rfl) (of_decide_eq_true h'.1) fun x hx => same_ok S k x (List.all_eq_true.mp h'.2 x hx)
  | k + 1, .tuple ds, h => by
    have h' : (decide (ds.length ≤ 1000) && ds.all (simple k)) = true := h
    rw [Bool.and_eq_true] at h'
    exact same_seq _ (.inr rfl) (of_decide_eq_true h'.1) fun x hx => same_ok S k x (List.all_eq_true.mp h'.2 x hx)
  | 0, .list _, h => by cases h
  | 0, .tuple _, h => by cases h
  | 0, .str _, h => by cases h
  | _ + 1, .str _, h => by cases h
  | 0, .dict _, h => by cases h
  | _ + 1, .dict _, h => by cases h
end Sm

set_option maxHeartbeats 1000000
namespace Sm
open PySem PySem.Spec PyProof.Rows L2 Lf

/-! ## rows drawn -/
theorem u1 {n m : Nat} {S : Sto} (u : UrnOk n S) (h : m ≤ n := by omega) : UrnOk m S := u.le h
def rowB : Sx := (sRet (eArgs (liftA fTuple) (asCons (eComp (.n 3) (iArgs rng1 (asCons (eArgs (callF 2 takeF) (asCons (eV 0) (asCons (eK (.int 6)) asNil))) asNil)) yesT (eArgs mkTup (asCons (e2 (lift2 addD) (eK (.int 1)) (eArgs (callF 2 takeF) (asCons (eV 0) (asCons (eV 1) asNil)))) (asCons (eArgs (callF 2 takeF) (asCons (eV 0) (asCons (eV 2) asNil))) asNil))) [3]) asNil)))
def rowF : Fn := runF 4 rowB
def rowE : Ex := (eArgs mkTup (asCons (e2 (lift2 addD) (eK (.int 1)) (eArgs (callF 2 takeF) (asCons (eV 0) (asCons (eV 1) asNil)))) (asCons (eArgs (callF 2 takeF) (asCons (eV 0) (asCons (eV 2) asNil))) asNil)))
theorem row_loop {size top : Int} (h1 : 1 ≤ size) (h1' : size ≤ 10 ^ 38) (h2 : 1 ≤ top) (h2' : top ≤ 10 ^ 38) : ∀ (ks : List PyData) (n : Nat) (S : Sto), UrnOk (n + 2 * ks.length) S → ∃ (rs : Row) (S' : Sto), cL (.n 3) yesT rowE [3] [some (.c 0), some (.d (.int size)), some (.d (.int top)), none] ks S = .ok (rs.map runD) S' ∧ UrnOk n S' ∧ rs.length = ks.length ∧ ∀ r ∈ rs, 1 ≤ r.1 ∧ 0 ≤ r.2 ∧ r.1 ≤ 10 ^ 38
  | [], n, S, u => ⟨[], S, rfl, u, rfl, fun r h => by cases h⟩
  | k :: ks, n, S, u => by
    rw [List.length_cons] at u
    obtain ⟨a, S1, h1e, a0, a1, u1'⟩ := take_ok (n := n + 2 * ks.length + 1) (u1 u) h1 (smallI_lt2 (by omega) (Int.lt_of_le_of_lt h1' (by decide +kernel)))
    obtain ⟨b, S2, h2e, b0, b1, u2'⟩ := take_ok (n := n + 2 * ks.length) u1' h2 (smallI_lt2 (by omega) (Int.lt_of_le_of_lt h2' (by decide +kernel)))
    obtain ⟨rs, S3, e3, u3, hl, hr⟩ := row_loop h1 h1' h2 h2' ks n S2 u2'
    have el : rowE [some (.c 0), some (.d (.int size)), some (.d (.int top)), some (.d k)] S = .ok (.d (runD (1 + a, b))) S2 :=
      ev_t2 (ev_2 rfl (ev_c2 rfl rfl rfl rfl h1e) addD_ii) (ev_c2 rfl rfl rfl rfl h2e)
    refine ⟨(1 + a, b) :: rs, S3, ?_, u3, by rw [List.length_cons, List.length_cons, hl], fun r hr' => ?_⟩
    · unfold cL
      rw [show asg (.n 3) k (wipeE [some (.c 0), some (.d (.int size)), some (.d (.int top)), none] [3]) = some [some (.c 0), some (.d (.int size)), some (.d (.int top)), some (.d k)] from rfl]
      dsimp only
      rw [show yesT [some (.c 0), some (.d (.int size)), some (.d (.int top)), some (.d k)] S = .ok true S from rfl]
      dsimp only
      rw [el]
      dsimp only
      rw [e3]
      rfl
    · rcases List.mem_cons.mp hr' with rfl | hr'
      · dsimp only
        omega
      · exact hr r hr'
theorem row_ok {size top : Int} (h1 : 1 ≤ size) (h1' : size ≤ 10 ^ 38) (h2 : 1 ≤ top) (h2' : top ≤ 10 ^ 38) {n : Nat} {S : Sto} (u : UrnOk (n + 11) S) : ∃ (rs : Row) (S' : Sto), rowF [.c 0, .d (.int size), .d (.int top)] S = .ok (.d (rowD rs)) S' ∧ UrnOk n S' ∧ RowOk rs ∧ rs.length ≤ 5 ∧ tot rs < 2 ^ 180 := by
  obtain ⟨k, S1, e1', k0, k1, u1'⟩ := take_ok (low := 6) (n := n + 10) (u1 u) (by decide) (by decide +kernel)
  have hlen : (rangeL 0 k.toNat).length = k.toNat := by unfold rangeL; rw [List.length_map, List.length_range]
  obtain ⟨rs, S2, e2', u2, hl, hr⟩ := row_loop h1 h1' h2 h2' (rangeL 0 k.toNat) n S1 (u1 u1' (by omega))
  have ht : ∀ rs : Row, (∀ r ∈ rs, 1 ≤ r.1 ∧ 0 ≤ r.2 ∧ r.1 ≤ 10 ^ 38) → tot rs ≤ rs.length * 10 ^ 38 := fun rs => by
    induction rs with
    | nil => intro _; decide
    | cons r rs ih =>
      intro h
      have := ih fun x hx => h x (List.mem_cons_of_mem _ hx)
      have := h r List.mem_cons_self
      rw [tot_cons, List.length_cons]
      omega
  have := ht rs hr
  refine ⟨rs, S2, ?_, u2, ⟨fun r hr' => ⟨(hr r hr').1, (hr r hr').2.1⟩, by omega⟩, by omega, by omega⟩
  have e3 : eComp (.n 3) (iArgs rng1 (asCons (eArgs (callF 2 takeF) (asCons (eV 0) (asCons (eK (.int 6)) asNil))) asNil)) yesT rowE [3] [some (.c 0), some (.d (.int size)), some (.d (.int top)), none] S = .ok (.d (.list (rs.map runD))) S2 := by
    unfold eComp
    have hi : iArgs rng1 (asCons (eArgs (callF 2 takeF) (asCons (eV 0) (asCons (eK (.int 6)) asNil))) asNil) [some (.c 0), some (.d (.int size)), some (.d (.int top)), none] S = .ok (rangeL 0 k.toNat) S1 := by
      have q : eArgs (callF 2 takeF) (asCons (eV 0) (asCons (eK (.int 6)) asNil)) [some (.c 0), some (.d (.int size)), some (.d (.int top)), none] S = .ok (.d (.int k)) S1 := ev_c2 rfl rfl rfl rfl e1'
      unfold iArgs
      rw [asCons_eq, q]
      show (if -1000000 ≤ k ∧ k ≤ 1000000 then R.ok (rangeL 0 k.toNat) S1 else R.no) = _
      rw [if_pos (by omega)]
    rw [hi]
    show lim (cL _ _ _ _ _ _ S1) = _
    rw [e2']
    show (if (rs.map runD).length ≤ big then _ else _) = _
    rw [if_pos (by rw [List.length_map, hl, hlen]; exact Nat.le_trans (show k.toNat ≤ 6 by omega) (by decide))]
  exact fn_rts rfl rfl (.ret (ev_A1 e3 rfl)) rfl
end Sm

set_option maxHeartbeats 16000000
namespace Sm
open PySem PySem.Spec PyProof.Rows L2 Lf

def topS (i : Nat) : Stmt := PySem.Challenge.pw_lastfords_k98_whole_great_rows_one_behin.main.body.getD i (.Pass ⟨0, 0, 0, 0⟩)
structure Bn (mg : Str → Option Value) : Prop where
  all : mg "all" = none
  bool : mg "bool" = none
  int : mg "int" = none
  isinstance : mg "isinstance" = none
  len : mg "len" = none
  list : mg "list" = none
  max : mg "max" = none
  min : mg "min" = none
  range : mg "range" = none
  set : mg "set" = none
  sorted : mg "sorted" = none
  str : mg "str" = none
  sum : mg "sum" = none
  tuple : mg "tuple" = none
  zip : mg "zip" = none
section
variable {P : Program} {w : World} {K : PySem.W.Frag} {mg : Str → Option Value} {base : Heap} {f : Addr} {fd : FuncData} {cm : CM}
/-! ## ascending -/
abbrev n_ascending : List Str := ["values"]
theorem sc_ascending : FnScope n_ascending ["values"] (defScope (topS 1)) := ⟨rfl, rfl, rfl, by decide +kernel, rfl, by decide +kernel, by decide +kernel⟩
def b_ascending : Sx := (sRet (eArgs (liftA fTuple) (asCons (e1 (lift1 ssF) (eV 0)) asNil)))
def f_ascending : Fn := runF 1 b_ascending
theorem ok_ascending (B : Bn mg)  (F : L2.Fun K "ascending" "ascending" (topS 1) f fd) : FnOk P w K mg base (L2.CX P w) 1 f fd ["values"] (spF cm 1 f_ascending) :=
  gfn (k := 0) (N := n_ascending) (ps := ["values"]) (b := b_ascending) F sc_ascending fun cdv A outer s H E hr => (gss_one (gs_ret (g_callTy c_tuple B.tuple (ga_cons (g_ss rfl B.sorted B.set (g_var 0)) ga_nil))))
/-! ## islands_in -/
abbrev n_islands_in : List Str := ["row", "many", "_"]
theorem sc_islands_in : FnScope n_islands_in ["row"] (defScope (topS 5)) := ⟨rfl, rfl, rfl, by decide +kernel, rfl, by decide +kernel, by decide +kernel⟩
def b_islands_in : Sx := (sRet (e2 (lift2 addD) (eK (.int 1)) (eArgs (liftA fSum) (asCons (eComp (.t [(.n 1), (.n 2)]) (iSq (eV 0)) yesT (eV 1) [1, 2]) asNil))))
def f_islands_in : Fn := runF 3 b_islands_in
theorem ok_islands_in (B : Bn mg)  (F : L2.Fun K "islands_in" "islands_in" (topS 5) f fd) : FnOk P w K mg base (L2.CX P w) 1 f fd ["row"] (spF cm 1 f_islands_in) :=
  gfn (k := 0) (N := n_islands_in) (ps := ["row"]) (b := b_islands_in) F sc_islands_in fun cdv A outer s H E hr => (gss_one (gs_ret (g_op o_add g_int (g_callB (c_sum rfl) B.sum (ga_cons (g_comp (own := [("many", 1), ("_", 2)]) rfl sc_islands_in.nd (gi_seq (g_var 0)) (blkOk_by (own := [("many", 1), ("_", 2)]) (N := n_islands_in) (sc := (defScope (topS 5))) (by decide +kernel)) (fun _ _ _ _ _ => (gg_tup rfl (ggs_cons (gg_name (i := 1) sc_islands_in.nd rfl (by first | exact .inl rfl | exact .inr rfl)) (ggs_cons (gg_name (i := 2) sc_islands_in.nd rfl (by first | exact .inl rfl | exact .inr rfl)) ggs_nil)))) (fun _ _ _ _ _ => gts_nil) (fun _ _ _ _ _ => (g_var 1))) ga_nil)))))
/-! ## check_numbers -/
abbrev n_check_numbers : List Str := ["row", "islands", "island"]
theorem sc_check_numbers : FnScope n_check_numbers ["row", "islands"] (defScope (topS 6)) := ⟨rfl, rfl, rfl, by decide +kernel, rfl, by decide +kernel, by decide +kernel⟩
def b_check_numbers : Sx := (sFor (.n 2) (iSq (eV 1)) (sIf (eNotT (eTest (eChain leF ltF (eK (.int 0)) (eV 2) (eArgs (callF 1 f_islands_in) (asCons (eV 0) asNil))))) sStuck sNil))
def f_check_numbers : Fn := runF 3 b_check_numbers
theorem ok_check_numbers (B : Bn mg) (h_islands_in : GF P w K mg base cm 1 "islands_in" ["row"] f_islands_in) (F : L2.Fun K "check_numbers" "check_numbers" (topS 6) f fd) : FnOk P w K mg base (L2.CX P w) 2 f fd ["row", "islands"] (spF cm 2 f_check_numbers) :=
  gfn (k := 1) (N := n_check_numbers) (ps := ["row", "islands"]) (b := b_check_numbers) F sc_check_numbers fun cdv A outer s H E hr => (gss_one (gs_for (passes_of rfl) rfl (gi_seq (g_var 1)) (gg_name (i := 2) sc_check_numbers.nd rfl (by first | exact .inl rfl | exact .inr rfl)) (gss_one (gs_if (gt_not (gt_chain o_le (o_lt hr) g_int (g_var 2) (g_call h_islands_in (takes_of rfl rfl rfl rfl) (hr.mono (by decide)) (ga_cons (g_var 0) ga_nil)))) (gss_one gs_never) gss_nil))))
/-! ## runs -/
abbrev n_runs : List Str := ["row", "found", "first", "many", "height"]
theorem sc_runs : FnScope n_runs ["row"] (defScope (topS 7)) := ⟨rfl, rfl, rfl, by decide +kernel, rfl, by decide +kernel, by decide +kernel⟩
def b_runs : Sx := (sSeq (sOwn 1 asNil)
    (sSeq (sSet 2 (eK (.int 0)))
    (sSeq (sFor (.t [(.n 3), (.n 4)]) (iSq (eV 0)) (sSeq (sApp 1 (eArgs mkTup (asCons (eV 2) (asCons (e2 (lift2 addD) (eV 2) (eV 3)) (asCons (eV 4) asNil)))))
    (sSet 2 (e2 (lift2 addD) (eV 2) (eV 3)))))
    (sRet (eV 1)))))
def f_runs : Fn := runF 5 b_runs
theorem ok_runs (B : Bn mg)  (F : L2.Fun K "runs" "runs" (topS 7) f fd) : FnOk P w K mg base (L2.CX P w) 1 f fd ["row"] (spF cm 1 f_runs) :=
  gfn (k := 0) (N := n_runs) (ps := ["row"]) (b := b_runs) F sc_runs fun cdv A outer s H E hr => (gss_cons (gs_own (i := 1) sc_runs.nd rfl (by first | exact .inl rfl | exact .inr rfl) ga_nil)
    (gss_cons (gs_set (i := 2) sc_runs.nd rfl (by first | exact .inl rfl | exact .inr rfl) g_int)
    (gss_cons (gs_for (passes_of rfl) rfl (gi_seq (g_var 0)) (gg_tup rfl (ggs_cons (gg_name (i := 3) sc_runs.nd rfl (by first | exact .inl rfl | exact .inr rfl)) (ggs_cons (gg_name (i := 4) sc_runs.nd rfl (by first | exact .inl rfl | exact .inr rfl)) ggs_nil))) (gss_cons (gs_app (i := 1) rfl (by first | exact Or.inl rfl | exact Or.inr (Or.inl rfl) | exact Or.inr (Or.inr rfl)) (by decide) (by decide) (g_tup (ga_cons (g_var 2) (ga_cons (g_op o_add (g_var 2) (g_var 3)) (ga_cons (g_var 4) ga_nil)))))
    (gss_one (gs_set (i := 2) sc_runs.nd rfl (by first | exact .inl rfl | exact .inr rfl) (g_op o_add (g_var 2) (g_var 3))))))
    (gss_one (gs_ret (g_var 1))))))
/-! ## last_height -/
abbrev n_last_height : List Str := ["row", "one", "other", "low", "high", "first", "last", "height"]
theorem sc_last_height : FnScope n_last_height ["row", "one", "other"] (defScope (topS 8)) := ⟨rfl, rfl, rfl, by decide +kernel, rfl, by decide +kernel, by decide +kernel⟩
def b_last_height : Sx := (sSeq (sExpr (eArgs (callF 2 f_check_numbers) (asCons (eV 0) (asCons (eArgs mkTup (asCons (eV 1) (asCons (eV 2) asNil))) asNil))))
    (sSeq (sIf (eTest (e2 (lift2 eqF) (eV 1) (eV 2))) (sRet (eK .none)) sNil)
    (sSeq (sAsg (.t [(.n 3), (.n 4)]) (eArgs mkTup (asCons (eArgs (liftA fMin) (asCons (eV 1) (asCons (eV 2) asNil))) (asCons (eArgs (liftA fMax) (asCons (eV 1) (asCons (eV 2) asNil))) asNil))))
    (sRet (eArgs (liftA fMin) (asCons (eComp (.t [(.n 5), (.n 6), (.n 7)]) (iSq (eArgs (callF 1 f_runs) (asCons (eV 0) asNil))) (eAndT (eTest (e2 (lift2 ltF) (eV 5) (eV 4))) (eTest (e2 (lift2 ltF) (eV 3) (eV 6)))) (eV 7) [5, 6, 7]) asNil))))))
def f_last_height : Fn := runF 8 b_last_height
theorem ok_last_height (B : Bn mg) (h_check_numbers : GF P w K mg base cm 2 "check_numbers" ["row", "islands"] f_check_numbers) (h_runs : GF P w K mg base cm 1 "runs" ["row"] f_runs) (F : L2.Fun K "last_height" "last_height" (topS 8) f fd) : FnOk P w K mg base (L2.CX P w) 3 f fd ["row", "one", "other"] (spF cm 3 f_last_height) :=
  gfn (k := 2) (N := n_last_height) (ps := ["row", "one", "other"]) (b := b_last_height) F sc_last_height fun cdv A outer s H E hr => (gss_cons (gs_expr (g_call h_check_numbers (takes_of rfl rfl rfl rfl) (hr.mono (by decide)) (ga_cons (g_var 0) (ga_cons (g_tup (ga_cons (g_var 1) (ga_cons (g_var 2) ga_nil))) ga_nil))))
    (gss_cons (gs_if (gt_cmp (o_eq hr) (g_var 1) (g_var 2) (nomark _)) (gss_one (gs_ret g_non)) gss_nil)
    (gss_cons (gs_asg (g_tup (ga_cons (g_callB (c_min rfl) B.min (ga_cons (g_var 1) (ga_cons (g_var 2) ga_nil))) (ga_cons (g_callB (c_max rfl) B.max (ga_cons (g_var 1) (ga_cons (g_var 2) ga_nil))) ga_nil))) (gg_tup rfl (ggs_cons (gg_name (i := 3) sc_last_height.nd rfl (by first | exact .inl rfl | exact .inr rfl)) (ggs_cons (gg_name (i := 4) sc_last_height.nd rfl (by first | exact .inl rfl | exact .inr rfl)) ggs_nil))))
    (gss_one (gs_ret (g_callB (c_min rfl) B.min (ga_cons (g_comp (own := [("first", 5), ("last", 6), ("height", 7)]) rfl sc_last_height.nd (gi_seq (g_call h_runs (takes_of rfl rfl rfl rfl) (hr.mono (by decide)) (ga_cons (g_var 0) ga_nil))) (blkOk_by (own := [("first", 5), ("last", 6), ("height", 7)]) (N := n_last_height) (sc := (defScope (topS 8))) (by decide +kernel)) (fun _ _ _ _ _ => (gg_tup rfl (ggs_cons (gg_name (i := 5) sc_last_height.nd rfl (by first | exact .inl rfl | exact .inr rfl)) (ggs_cons (gg_name (i := 6) sc_last_height.nd rfl (by first | exact .inl rfl | exact .inr rfl)) (ggs_cons (gg_name (i := 7) sc_last_height.nd rfl (by first | exact .inl rfl | exact .inr rfl)) ggs_nil))))) (fun _ _ _ _ _ => (gts_one (gw_pt (gw_and (gt_cmp (o_lt hr) (g_var 5) (g_var 4) (nomark _)) (gw_and1 (gt_cmp (o_lt hr) (g_var 3) (g_var 6) (nomark _))))))) (fun _ _ _ _ _ => (g_var 7))) ga_nil)))))))
/-! ## lots_at -/
abbrev n_lots_at : List Str := ["row", "water", "many", "height"]
theorem sc_lots_at : FnScope n_lots_at ["row", "water"] (defScope (topS 9)) := ⟨rfl, rfl, rfl, by decide +kernel, rfl, by decide +kernel, by decide +kernel⟩
def b_lots_at : Sx := (sRet (e2 (lift2 addD) (eK (.int 1)) (eArgs (liftA fSum) (asCons (eComp (.t [(.n 2), (.n 3)]) (iSq (eV 0)) (eTest (e2 (lift2 leF) (eV 3) (eV 1))) (eV 2) [2, 3]) asNil))))
def f_lots_at : Fn := runF 4 b_lots_at
theorem ok_lots_at (B : Bn mg)  (F : L2.Fun K "lots_at" "lots_at" (topS 9) f fd) : FnOk P w K mg base (L2.CX P w) 1 f fd ["row", "water"] (spF cm 2 f_lots_at) :=
  gfn (k := 0) (N := n_lots_at) (ps := ["row", "water"]) (b := b_lots_at) F sc_lots_at fun cdv A outer s H E hr => (gss_one (gs_ret (g_op o_add g_int (g_callB (c_sum rfl) B.sum (ga_cons (g_comp (own := [("many", 2), ("height", 3)]) rfl sc_lots_at.nd (gi_seq (g_var 0)) (blkOk_by (own := [("many", 2), ("height", 3)]) (N := n_lots_at) (sc := (defScope (topS 9))) (by decide +kernel)) (fun _ _ _ _ _ => (gg_tup rfl (ggs_cons (gg_name (i := 2) sc_lots_at.nd rfl (by first | exact .inl rfl | exact .inr rfl)) (ggs_cons (gg_name (i := 3) sc_lots_at.nd rfl (by first | exact .inl rfl | exact .inr rfl)) ggs_nil)))) (fun _ _ _ _ _ => (gts_one (gt_cmp o_le (g_var 3) (g_var 1) (nomark _)))) (fun _ _ _ _ _ => (g_var 2))) ga_nil)))))
/-! ## lot_at -/
abbrev n_lot_at : List Str := ["row", "island", "water", "sunk", "first", "last", "height", "firsts", "lasts"]
theorem sc_lot_at : FnScope n_lot_at ["row", "island", "water"] (defScope (topS 10)) := ⟨rfl, rfl, rfl, by decide +kernel, rfl, by decide +kernel, by decide +kernel⟩
def b_lot_at : Sx := (sSeq (sExpr (eArgs (callF 2 f_check_numbers) (asCons (eV 0) (asCons (eArgs mkTup (asCons (eV 1) asNil)) asNil))))
    (sSeq (sSet 3 (eComp (.t [(.n 4), (.n 5), (.n 6)]) (iSq (eArgs (callF 1 f_runs) (asCons (eV 0) asNil))) (eTest (e2 (lift2 leF) (eV 6) (eV 2))) (eArgs mkTup (asCons (eV 4) (asCons (eV 5) asNil))) [4, 5, 6]))
    (sSeq (sSet 7 (eComp (.t [(.n 4), (.n 5)]) (iSq (eV 3)) (eTest (e2 (lift2 ltF) (eV 4) (eV 1))) (eArgs (liftA fMin) (asCons (eV 1) (asCons (eV 5) asNil))) [4, 5]))
    (sSeq (sSet 8 (eComp (.t [(.n 4), (.n 5)]) (iSq (eV 3)) (eTest (e2 (lift2 ltF) (eV 1) (eV 5))) (eArgs (liftA fMax) (asCons (eV 1) (asCons (eV 4) asNil))) [4, 5]))
    (sRet (eArgs mkTup (asCons (eArgs (liftA fMax) (asCons (eArgs mkLst (asCons (eK (.int 0)) (asStar (eV 7) asNil))) asNil)) (asCons (eArgs (liftA fMin) (asCons (eArgs mkLst (asCons (e2 (lift2 subD) (eArgs (callF 1 f_islands_in) (asCons (eV 0) asNil)) (eK (.int 1))) (asStar (eV 8) asNil))) asNil)) asNil))))))))
def f_lot_at : Fn := runF 9 b_lot_at
theorem ok_lot_at (B : Bn mg) (h_islands_in : GF P w K mg base cm 1 "islands_in" ["row"] f_islands_in) (h_check_numbers : GF P w K mg base cm 2 "check_numbers" ["row", "islands"] f_check_numbers) (h_runs : GF P w K mg base cm 1 "runs" ["row"] f_runs) (F : L2.Fun K "lot_at" "lot_at" (topS 10) f fd) : FnOk P w K mg base (L2.CX P w) 3 f fd ["row", "island", "water"] (spF cm 3 f_lot_at) :=
  gfn (k := 2) (N := n_lot_at) (ps := ["row", "island", "water"]) (b := b_lot_at) F sc_lot_at fun cdv A outer s H E hr => (gss_cons (gs_expr (g_call h_check_numbers (takes_of rfl rfl rfl rfl) (hr.mono (by decide)) (ga_cons (g_var 0) (ga_cons (g_tup (ga_cons (g_var 1) ga_nil)) ga_nil))))
    (gss_cons (gs_setLc (i := 3) (own := [("first", 4), ("last", 5), ("height", 6)]) rfl sc_lot_at.nd rfl rfl (sw_true rfl rfl rfl (by decide +kernel)) (gi_seq (g_call h_runs (takes_of rfl rfl rfl rfl) (hr.mono (by decide)) (ga_cons (g_var 0) ga_nil))) (blkOk_by (own := [("first", 4), ("last", 5), ("height", 6)]) (N := n_lot_at) (sc := (defScope (topS 10))) (by decide +kernel)) (fun _ _ _ _ _ => (gg_tup rfl (ggs_cons (gg_name (i := 4) sc_lot_at.nd rfl (by first | exact .inl rfl | exact .inr rfl)) (ggs_cons (gg_name (i := 5) sc_lot_at.nd rfl (by first | exact .inl rfl | exact .inr rfl)) (ggs_cons (gg_name (i := 6) sc_lot_at.nd rfl (by first | exact .inl rfl | exact .inr rfl)) ggs_nil))))) (fun _ _ _ _ _ => (gts_one (gt_cmp o_le (g_var 6) (g_var 2) (nomark _)))) (fun _ _ _ _ _ => (g_tup (ga_cons (g_var 4) (ga_cons (g_var 5) ga_nil)))))
    (gss_cons (gs_setLc (i := 7) (own := [("first", 4), ("last", 5)]) rfl sc_lot_at.nd rfl rfl (sw_true rfl rfl rfl (by decide +kernel)) (gi_seq (g_var 3)) (blkOk_by (own := [("first", 4), ("last", 5)]) (N := n_lot_at) (sc := (defScope (topS 10))) (by decide +kernel)) (fun _ _ _ _ _ => (gg_tup rfl (ggs_cons (gg_name (i := 4) sc_lot_at.nd rfl (by first | exact .inl rfl | exact .inr rfl)) (ggs_cons (gg_name (i := 5) sc_lot_at.nd rfl (by first | exact .inl rfl | exact .inr rfl)) ggs_nil)))) (fun _ _ _ _ _ => (gts_one (gt_cmp (o_lt hr) (g_var 4) (g_var 1) (nomark _)))) (fun _ _ _ _ _ => (g_callB (c_min rfl) B.min (ga_cons (g_var 1) (ga_cons (g_var 5) ga_nil)))))
    (gss_cons (gs_setLc (i := 8) (own := [("first", 4), ("last", 5)]) rfl sc_lot_at.nd rfl rfl (sw_true rfl rfl rfl (by decide +kernel)) (gi_seq (g_var 3)) (blkOk_by (own := [("first", 4), ("last", 5)]) (N := n_lot_at) (sc := (defScope (topS 10))) (by decide +kernel)) (fun _ _ _ _ _ => (gg_tup rfl (ggs_cons (gg_name (i := 4) sc_lot_at.nd rfl (by first | exact .inl rfl | exact .inr rfl)) (ggs_cons (gg_name (i := 5) sc_lot_at.nd rfl (by first | exact .inl rfl | exact .inr rfl)) ggs_nil)))) (fun _ _ _ _ _ => (gts_one (gt_cmp (o_lt hr) (g_var 1) (g_var 5) (nomark _)))) (fun _ _ _ _ _ => (g_callB (c_max rfl) B.max (ga_cons (g_var 1) (ga_cons (g_var 4) ga_nil)))))
    (gss_one (gs_ret (g_tup (ga_cons (g_callB (c_max rfl) B.max (ga_cons (g_lst (ga_cons g_int (ga_star (g_var 7) ga_nil))) ga_nil)) (ga_cons (g_callB (c_min rfl) B.min (ga_cons (g_lst (ga_cons (g_op o_sub (g_call h_islands_in (takes_of rfl rfl rfl rfl) (hr.mono (by decide)) (ga_cons (g_var 0) ga_nil)) g_int) (ga_star (g_var 8) ga_nil))) ga_nil)) ga_nil)))))))))
/-! ## great_lots -/
abbrev n_great_lots : List Str := ["row", "water", "sizes", "many", "height"]
theorem sc_great_lots : FnScope n_great_lots ["row", "water"] (defScope (topS 11)) := ⟨rfl, rfl, rfl, by decide +kernel, rfl, by decide +kernel, by decide +kernel⟩
def b_great_lots : Sx := (sSeq (sOwn 2 (asCons (eK (.int 1)) asNil))
    (sSeq (sFor (.t [(.n 3), (.n 4)]) (iSq (eV 0)) (sIf (eTest (e2 (lift2 gtF) (eV 4) (eV 1))) (sPut 2 (e1 (lift1 negF) (eK (.int 1))) (e2 (lift2 addD) (e2 (lift2 ixLT) (eV 2) (e1 (lift1 negF) (eK (.int 1)))) (eV 3))) (sApp 2 (eK (.int 1)))))
    (sRet (eV 2))))
def f_great_lots : Fn := runF 5 b_great_lots
theorem ok_great_lots (B : Bn mg)  (F : L2.Fun K "great_lots" "great_lots" (topS 11) f fd) : FnOk P w K mg base (L2.CX P w) 1 f fd ["row", "water"] (spF cm 2 f_great_lots) :=
  gfn (k := 0) (N := n_great_lots) (ps := ["row", "water"]) (b := b_great_lots) F sc_great_lots fun cdv A outer s H E hr => (gss_cons (gs_own (i := 2) sc_great_lots.nd rfl (by first | exact .inl rfl | exact .inr rfl) (ga_cons g_int ga_nil))
    (gss_cons (gs_for (passes_of rfl) rfl (gi_seq (g_var 0)) (gg_tup rfl (ggs_cons (gg_name (i := 3) sc_great_lots.nd rfl (by first | exact .inl rfl | exact .inr rfl)) (ggs_cons (gg_name (i := 4) sc_great_lots.nd rfl (by first | exact .inl rfl | exact .inr rfl)) ggs_nil))) (gss_one (gs_if (gt_cmp o_gt (g_var 4) (g_var 1) (nomark _)) (gss_one (gs_put (i := 2) rfl (by first | exact Or.inl rfl | exact Or.inr (Or.inl rfl) | exact Or.inr (Or.inr rfl)) (by decide) (by decide) (g_neg g_int) (g_op o_add (g_ix i_seq (g_var 2) (g_neg g_int)) (g_var 3)))) (gss_one (gs_app (i := 2) rfl (by first | exact Or.inl rfl | exact Or.inr (Or.inl rfl) | exact Or.inr (Or.inr rfl)) (by decide) (by decide) g_int)))))
    (gss_one (gs_ret (g_var 2)))))
/-! ## greatest_lot -/
abbrev n_greatest_lot : List Str := ["row", "water"]
theorem sc_greatest_lot : FnScope n_greatest_lot ["row", "water"] (defScope (topS 12)) := ⟨rfl, rfl, rfl, by decide +kernel, rfl, by decide +kernel, by decide +kernel⟩
def b_greatest_lot : Sx := (sRet (eArgs (liftA fMax) (asCons (eArgs (callF 2 f_great_lots) (asCons (eV 0) (asCons (eV 1) asNil))) asNil)))
def f_greatest_lot : Fn := runF 2 b_greatest_lot
theorem ok_greatest_lot (B : Bn mg) (h_great_lots : GF P w K mg base cm 1 "great_lots" ["row", "water"] f_great_lots) (F : L2.Fun K "greatest_lot" "greatest_lot" (topS 12) f fd) : FnOk P w K mg base (L2.CX P w) 2 f fd ["row", "water"] (spF cm 2 f_greatest_lot) :=
  gfn (k := 1) (N := n_greatest_lot) (ps := ["row", "water"]) (b := b_greatest_lot) F sc_greatest_lot fun cdv A outer s H E hr => (gss_one (gs_ret (g_callB (c_max rfl) B.max (ga_cons (g_call h_great_lots (takes_of rfl rfl rfl rfl) (hr.mono (by decide)) (ga_cons (g_var 0) (ga_cons (g_var 1) ga_nil))) ga_nil))))
/-! ## how_many_joined -/
abbrev n_how_many_joined : List Str := ["row", "water", "size"]
theorem sc_how_many_joined : FnScope n_how_many_joined ["row", "water"] (defScope (topS 13)) := ⟨rfl, rfl, rfl, by decide +kernel, rfl, by decide +kernel, by decide +kernel⟩
def b_how_many_joined : Sx := (sRet (eArgs (liftA fSum) (asCons (eComp (.n 2) (iSq (eArgs (callF 2 f_great_lots) (asCons (eV 0) (asCons (eV 1) asNil)))) yesT (e2 (lift2 divD) (e2 (lift2 mulD) (eV 2) (e2 (lift2 subD) (eV 2) (eK (.int 1)))) (eK (.int 2))) [2]) asNil)))
def f_how_many_joined : Fn := runF 3 b_how_many_joined
theorem ok_how_many_joined (B : Bn mg) (h_great_lots : GF P w K mg base cm 1 "great_lots" ["row", "water"] f_great_lots) (F : L2.Fun K "how_many_joined" "how_many_joined" (topS 13) f fd) : FnOk P w K mg base (L2.CX P w) 2 f fd ["row", "water"] (spF cm 2 f_how_many_joined) :=
  gfn (k := 1) (N := n_how_many_joined) (ps := ["row", "water"]) (b := b_how_many_joined) F sc_how_many_joined fun cdv A outer s H E hr => (gss_one (gs_ret (g_callB (c_sum rfl) B.sum (ga_cons (g_comp (own := [("size", 2)]) rfl sc_how_many_joined.nd (gi_seq (g_call h_great_lots (takes_of rfl rfl rfl rfl) (hr.mono (by decide)) (ga_cons (g_var 0) (ga_cons (g_var 1) ga_nil)))) (blkOk_by (own := [("size", 2)]) (N := n_how_many_joined) (sc := (defScope (topS 13))) (by decide +kernel)) (fun _ _ _ _ _ => (gg_name (i := 2) sc_how_many_joined.nd rfl (by first | exact .inl rfl | exact .inr rfl))) (fun _ _ _ _ _ => gts_nil) (fun _ _ _ _ _ => (g_op o_div (g_op o_mul (g_var 2) (g_op o_sub (g_var 2) g_int)) g_int))) ga_nil))))
/-! ## waters_of -/
abbrev n_waters_of : List Str := ["row", "_", "height"]
theorem sc_waters_of : FnScope n_waters_of ["row"] (defScope (topS 14)) := ⟨rfl, rfl, rfl, by decide +kernel, rfl, by decide +kernel, by decide +kernel⟩
def b_waters_of : Sx := (sRet (eArgs (callF 1 f_ascending) (asCons (eComp (.t [(.n 1), (.n 2)]) (iSq (eV 0)) yesT (eV 2) [1, 2]) asNil)))
def f_waters_of : Fn := runF 3 b_waters_of
theorem ok_waters_of (B : Bn mg) (h_ascending : GF P w K mg base cm 1 "ascending" ["values"] f_ascending) (F : L2.Fun K "waters_of" "waters_of" (topS 14) f fd) : FnOk P w K mg base (L2.CX P w) 2 f fd ["row"] (spF cm 1 f_waters_of) :=
  gfn (k := 1) (N := n_waters_of) (ps := ["row"]) (b := b_waters_of) F sc_waters_of fun cdv A outer s H E hr => (gss_one (gs_ret (g_call h_ascending (takes_of rfl rfl rfl rfl) (hr.mono (by decide)) (ga_cons (g_comp (own := [("_", 1), ("height", 2)]) rfl sc_waters_of.nd (gi_seq (g_var 0)) (blkOk_by (own := [("_", 1), ("height", 2)]) (N := n_waters_of) (sc := (defScope (topS 14))) (by decide +kernel)) (fun _ _ _ _ _ => (gg_tup rfl (ggs_cons (gg_name (i := 1) sc_waters_of.nd rfl (by first | exact .inl rfl | exact .inr rfl)) (ggs_cons (gg_name (i := 2) sc_waters_of.nd rfl (by first | exact .inl rfl | exact .inr rfl)) ggs_nil)))) (fun _ _ _ _ _ => gts_nil) (fun _ _ _ _ _ => (g_var 2))) ga_nil))))
/-! ## the law's take -/
abbrev n__law_take : List Str := ["_law_urn", "_law_low_so", "_law_drawn", "_law_once", "_law_far", "_law_twice"]
theorem sc__law_take : FnScope n__law_take ["_law_urn", "_law_low_so"] (defScope (topS 17)) := ⟨rfl, rfl, rfl, by decide +kernel, rfl, by decide +kernel, by decide +kernel⟩
def b__law_take : Sx := (sSeq (sIf (eTest (e2 (lift2 gtF) (e2 (lift2 ixLT) (eV 0) (eK (.int 0))) (eK (.int 0)))) (sSeq (sSet 2 (e2 (lift2 modD) (eArgs (liftA fInt) (asCons (e2 (lift2 ixLT) (eV 0) (eK (.int 0))) asNil)) (eV 1)))
    (sSeq (sPut 0 (eK (.int 0)) (e2 (lift2 divD) (e2 (lift2 ixLT) (eV 0) (eK (.int 0))) (eV 1)))
    (sRet (eV 2)))) sNil)
    (sSeq (sPut 0 (eK (.int 2)) (e2 (lift2 addD) (e2 (lift2 ixLT) (eV 0) (eK (.int 2))) (eK (.int 1))))
    (sSeq (sSet 3 (e2 (lift2 modD) (eArgs (liftA fInt) (asCons (e2 (lift2 mulD) (e2 (lift2 addD) (e2 (lift2 ixLT) (eV 0) (eK (.int 1))) (e2 (lift2 mulD) (eK (.int 48271)) (e2 (lift2 ixLT) (eV 0) (eK (.int 2))))) (e2 (lift2 addD) (eK (.int 39373)) (e2 (lift2 ixLT) (eV 0) (eK (.int 2))))) asNil)) (eK (.int 2147483647))))
    (sSeq (sSet 4 (e2 (lift2 addD) (e2 (lift2 modD) (eArgs (liftA fInt) (asCons (eV 3) asNil)) (eK (.int 40009))) (eK (.int 7))))
    (sSeq (sSet 5 (e2 (lift2 modD) (eArgs (liftA fInt) (asCons (e2 (lift2 mulD) (e2 (lift2 addD) (e2 (lift2 addD) (eV 3) (e2 (lift2 ixLT) (eV 0) (eK (.int 2)))) (e2 (lift2 divD) (e2 (lift2 ixLT) (eV 0) (eK (.int 1))) (eK (.int 1000003)))) (eV 4)) asNil)) (eK (.int 2147483629))))
    (sRet (e2 (lift2 modD) (eArgs (liftA fInt) (asCons (e2 (lift2 divD) (e2 (lift2 modD) (eArgs (liftA fInt) (asCons (e2 (lift2 addD) (e2 (lift2 mulD) (eV 5) (eK (.int 48271))) (eV 3)) asNil)) (eK (.int 2147483587))) (eK (.int 64))) asNil)) (eV 1))))))))
def f__law_take : Fn := runF 6 b__law_take
theorem ok__law_take (B : Bn mg)  (F : L2.Fun K "_law_take" "_law_take" (topS 17) f fd) : FnOk P w K mg base (L2.CX P w) 1 f fd ["_law_urn", "_law_low_so"] (spF cm 2 f__law_take) :=
  gfn (k := 0) (N := n__law_take) (ps := ["_law_urn", "_law_low_so"]) (b := b__law_take) F sc__law_take fun cdv A outer s H E hr => (gss_cons (gs_if (gt_cmp o_gt (g_ix i_seq (g_var 0) g_int) g_int (nomark _)) (gss_cons (gs_set (i := 2) sc__law_take.nd rfl (by first | exact .inl rfl | exact .inr rfl) (g_op o_mod (g_callTy c_int B.int (ga_cons (g_ix i_seq (g_var 0) g_int) ga_nil)) (g_var 1)))
    (gss_cons (gs_put (i := 0) rfl (by first | exact Or.inl rfl | exact Or.inr (Or.inl rfl) | exact Or.inr (Or.inr rfl)) (by decide) (by decide) g_int (g_op o_div (g_ix i_seq (g_var 0) g_int) (g_var 1)))
    (gss_one (gs_ret (g_var 2))))) gss_nil)
    (gss_cons (gs_put (i := 0) rfl (by first | exact Or.inl rfl | exact Or.inr (Or.inl rfl) | exact Or.inr (Or.inr rfl)) (by decide) (by decide) g_int (g_op o_add (g_ix i_seq (g_var 0) g_int) g_int))
    (gss_cons (gs_set (i := 3) sc__law_take.nd rfl (by first | exact .inl rfl | exact .inr rfl) (g_op o_mod (g_callTy c_int B.int (ga_cons (g_op o_mul (g_op o_add (g_ix i_seq (g_var 0) g_int) (g_op o_mul g_int (g_ix i_seq (g_var 0) g_int))) (g_op o_add g_int (g_ix i_seq (g_var 0) g_int))) ga_nil)) g_int))
    (gss_cons (gs_set (i := 4) sc__law_take.nd rfl (by first | exact .inl rfl | exact .inr rfl) (g_op o_add (g_op o_mod (g_callTy c_int B.int (ga_cons (g_var 3) ga_nil)) g_int) g_int))
    (gss_cons (gs_set (i := 5) sc__law_take.nd rfl (by first | exact .inl rfl | exact .inr rfl) (g_op o_mod (g_callTy c_int B.int (ga_cons (g_op o_mul (g_op o_add (g_op o_add (g_var 3) (g_ix i_seq (g_var 0) g_int)) (g_op o_div (g_ix i_seq (g_var 0) g_int) g_int)) (g_var 4)) ga_nil)) g_int))
    (gss_one (gs_ret (g_op o_mod (g_callTy c_int B.int (ga_cons (g_op o_div (g_op o_mod (g_callTy c_int B.int (ga_cons (g_op o_add (g_op o_mul (g_var 5) g_int) (g_var 3)) ga_nil)) g_int) g_int) ga_nil)) (g_var 1)))))))))
/-! ## the law's of -/
abbrev n__law_of : List Str := ["_law_urn", "_law_some_so"]
theorem sc__law_of : FnScope n__law_of ["_law_urn", "_law_some_so"] (defScope (topS 19)) := ⟨rfl, rfl, rfl, by decide +kernel, rfl, by decide +kernel, by decide +kernel⟩
def b__law_of : Sx := (sRet (e2 (lift2 ixLT) (eV 1) (eArgs (callF 2 f__law_take) (asCons (eV 0) (asCons (eArgs (liftA fLen) (asCons (eV 1) asNil)) asNil)))))
def f__law_of : Fn := runF 2 b__law_of
theorem ok__law_of (B : Bn mg) (h__law_take : GF P w K mg base cm 1 "_law_take" ["_law_urn", "_law_low_so"] f__law_take) (F : L2.Fun K "_law_of" "_law_of" (topS 19) f fd) : FnOk P w K mg base (L2.CX P w) 2 f fd ["_law_urn", "_law_some_so"] (spF cm 2 f__law_of) :=
  gfn (k := 1) (N := n__law_of) (ps := ["_law_urn", "_law_some_so"]) (b := b__law_of) F sc__law_of fun cdv A outer s H E hr => (gss_one (gs_ret (g_ix i_seq (g_var 1) (g_call h__law_take (takes_of rfl rfl rfl rfl) (hr.mono (by decide)) (ga_cons (g_var 0) (ga_cons (g_callB c_len B.len (ga_cons (g_var 1) ga_nil)) ga_nil))))))
/-! ## the law's same -/
abbrev n__law_same : List Str := ["_law_got", "_law_goal", "_law_mine_so", "_law_own"]
theorem sc__law_same : FnScope n__law_same ["_law_got", "_law_goal"] (defScope (topS 20)) := ⟨rfl, rfl, rfl, by decide +kernel, rfl, by decide +kernel, by decide +kernel⟩
def b__law_same (f_ : Fn) : Sx := (sSeq (sIf (eTest (e1 (lift1 (isi2F .list .tuple)) (eV 1))) (sSeq (sIf (eOrT (eTest (e2 (lift2 neF) (e1 (lift1 (isiF .list)) (eV 0)) (e1 (lift1 (isiF .list)) (eV 1)))) (eTest (e2 (lift2 neF) (e1 (lift1 (isiF .tuple)) (eV 0)) (e1 (lift1 (isiF .tuple)) (eV 1))))) (sRet (eK (.bool false))) sNil)
    (sRet (eAnd (e2 (lift2 eqF) (eArgs (liftA fLen) (asCons (eV 0) asNil)) (eArgs (liftA fLen) (asCons (eV 1) asNil))) (eArgs (liftA fAll) (asCons (eComp (.t [(.n 2), (.n 3)]) (iArgs zip2 (asCons (eV 0) (asCons (eV 1) asNil))) yesT (eArgs (callF 2 f_) (asCons (eV 2) (asCons (eV 3) asNil))) [2, 3]) asNil))))) sNil)
    (sSeq (sIf (eOrT (eTest (e2 (lift2 isF) (eV 1) (eK .none))) (eTest (e1 (lift1 (isi2F .bool .str)) (eV 1)))) (sRet (eAnd (e2 (lift2 eqF) (eV 0) (eV 1)) (eAnd (e2 (lift2 eqF) (e1 (lift1 (isiF .bool)) (eV 0)) (e1 (lift1 (isiF .bool)) (eV 1))) (e2 (lift2 eqF) (e2 (lift2 isF) (eV 0) (eK .none)) (e2 (lift2 isF) (eV 1) (eK .none)))))) sNil)
    (sRet (eAnd (e1 (lift1 (isiF .int)) (eV 0)) (eAnd (eNot (e1 (lift1 (isiF .bool)) (eV 0))) (e2 (lift2 eqF) (eV 0) (eV 1)))))))
def f__law_same : Nat → Fn
  | 0 => fNo
  | k + 1 => runF 4 (b__law_same (f__law_same k))
theorem ok__law_same (B : Bn mg)  {k : Nat} {f_ : Fn} (h__law_same : GF P w K mg base cm (k + 1) "_law_same" ["_law_got", "_law_goal"] f_) (F : L2.Fun K "_law_same" "_law_same" (topS 20) f fd) : FnOk P w K mg base (L2.CX P w) (k + 1 + 1) f fd ["_law_got", "_law_goal"] (spF cm 2 (runF 4 (b__law_same f_))) :=
  gfn (k := k + 1) (N := n__law_same) (ps := ["_law_got", "_law_goal"]) (b := b__law_same f_) F sc__law_same fun cdv A outer s H E hr => (gss_cons (gs_if (gt_val (g_isi2 .list .tuple B.isinstance B.list B.tuple (g_var 1) (by decide +kernel) (by decide +kernel))) (gss_cons (gs_if (gw_pt (gw_or (gt_cmp (o_ne hr) (g_isi .list B.isinstance B.list (g_var 0) (by decide +kernel)) (g_isi .list B.isinstance B.list (g_var 1) (by decide +kernel)) (nomark _)) (gw_or1 (gt_cmp (o_ne hr) (g_isi .tuple B.isinstance B.tuple (g_var 0) (by decide +kernel)) (g_isi .tuple B.isinstance B.tuple (g_var 1) (by decide +kernel)) (nomark _))))) (gss_one (gs_ret g_bl)) gss_nil)
    (gss_one (gs_ret (g_and (g_cmp (o_eq hr) (g_callB c_len B.len (ga_cons (g_var 0) ga_nil)) (g_callB c_len B.len (ga_cons (g_var 1) ga_nil)) (nomark _)) (g_one (g_callB (c_all rfl) B.all (ga_cons (g_comp (own := [("_law_mine_so", 2), ("_law_own", 3)]) rfl sc__law_same.nd (gi_zip B.zip (ga_cons (g_var 0) (ga_cons (g_var 1) ga_nil))) (blkOk_by (own := [("_law_mine_so", 2), ("_law_own", 3)]) (N := n__law_same) (sc := (defScope (topS 20))) (by decide +kernel)) (fun _ _ _ _ _ => (gg_tup rfl (ggs_cons (gg_name (i := 2) sc__law_same.nd rfl (by first | exact .inl rfl | exact .inr rfl)) (ggs_cons (gg_name (i := 3) sc__law_same.nd rfl (by first | exact .inl rfl | exact .inr rfl)) ggs_nil)))) (fun _ _ _ _ _ => gts_nil) (fun _ _ _ _ _ => (g_call h__law_same takes0 (hr.mono (by omega)) (ga_cons (g_var 2) (ga_cons (g_var 3) ga_nil))))) ga_nil))))))) gss_nil)
    (gss_cons (gs_if (gw_pt (gw_or (gt_cmp o_is (g_var 1) g_non (nomark _)) (gw_or1 (gt_val (g_isi2 .bool .str B.isinstance B.bool B.str (g_var 1) (by decide +kernel) (by decide +kernel)))))) (gss_one (gs_ret (g_and (g_cmp (o_eq hr) (g_var 0) (g_var 1) (nomark _)) (g_and (g_cmp (o_eq hr) (g_isi .bool B.isinstance B.bool (g_var 0) (by decide +kernel)) (g_isi .bool B.isinstance B.bool (g_var 1) (by decide +kernel)) (nomark _)) (g_one (g_cmp (o_eq hr) (g_cmp o_is (g_var 0) g_non (nomark _)) (g_cmp o_is (g_var 1) g_non (nomark _)) (nomark _))))))) gss_nil)
    (gss_one (gs_ret (g_and (g_isi .int B.isinstance B.int (g_var 0) (by decide +kernel)) (g_and (g_not (g_isi .bool B.isinstance B.bool (g_var 0) (by decide +kernel))) (g_one (g_cmp (o_eq hr) (g_var 0) (g_var 1) (nomark _)))))))))
theorem gf__law_same (B : Bn mg)  (F : L2.Fun K "_law_same" "_law_same" (topS 20) f fd) (hm : mg "_law_same" = some (.ref f)) (hb : Binds K fd ["_law_got", "_law_goal"] []) : ∀ k : Nat, GF P w K mg base cm (k + 1) "_law_same" ["_law_got", "_law_goal"] (f__law_same k)
  | 0 => ⟨f, fd, fn_none, hm, F.kp, hb⟩
  | k + 1 => ⟨f, fd, ok__law_same B  (gf__law_same B  F hm hb k) F, hm, F.kp, hb⟩
/-! ## the law's row -/
abbrev n__law_row : List Str := ["_law_urn", "_law_most", "_law_top", "_law_own"]
theorem sc__law_row : FnScope n__law_row ["_law_urn", "_law_most", "_law_top"] (defScope (topS 21)) := ⟨rfl, rfl, rfl, by decide +kernel, rfl, by decide +kernel, by decide +kernel⟩
def b__law_row : Sx := (sRet (eArgs (liftA fTuple) (asCons (eComp (.n 3) (iArgs rng1 (asCons (eArgs (callF 2 f__law_take) (asCons (eV 0) (asCons (eK (.int 6)) asNil))) asNil)) yesT (eArgs mkTup (asCons (e2 (lift2 addD) (eK (.int 1)) (eArgs (callF 2 f__law_take) (asCons (eV 0) (asCons (eV 1) asNil)))) (asCons (eArgs (callF 2 f__law_take) (asCons (eV 0) (asCons (eV 2) asNil))) asNil))) [3]) asNil)))
def f__law_row : Fn := runF 4 b__law_row
theorem ok__law_row (B : Bn mg) (h__law_take : GF P w K mg base cm 1 "_law_take" ["_law_urn", "_law_low_so"] f__law_take) (F : L2.Fun K "_law_row" "_law_row" (topS 21) f fd) : FnOk P w K mg base (L2.CX P w) 2 f fd ["_law_urn", "_law_most", "_law_top"] (spF cm 3 f__law_row) :=
  gfn (k := 1) (N := n__law_row) (ps := ["_law_urn", "_law_most", "_law_top"]) (b := b__law_row) F sc__law_row fun cdv A outer s H E hr => (gss_one (gs_ret (g_callTy c_tuple B.tuple (ga_cons (g_comp (own := [("_law_own", 3)]) rfl sc__law_row.nd (gi_range1 B.range (ga_cons (g_call h__law_take (takes_of rfl rfl rfl rfl) (hr.mono (by decide)) (ga_cons (g_var 0) (ga_cons g_int ga_nil))) ga_nil)) (blkOk_by (own := [("_law_own", 3)]) (N := n__law_row) (sc := (defScope (topS 21))) (by decide +kernel)) (fun _ _ _ _ _ => (gg_name (i := 3) sc__law_row.nd rfl (by first | exact .inl rfl | exact .inr rfl))) (fun _ _ _ _ _ => gts_nil) (fun _ _ _ _ _ => (g_tup (ga_cons (g_op o_add g_int (g_call h__law_take takes0 (hr.mono (by decide)) (ga_cons (g_var 0) (ga_cons (g_var 1) ga_nil)))) (ga_cons (g_call h__law_take takes0 (hr.mono (by decide)) (ga_cons (g_var 0) (ga_cons (g_var 2) ga_nil))) ga_nil))))) ga_nil))))
/-! ## the law's by_hand_right -/
abbrev n__law_by_hand_right : List Str := ["_law_far", "_law_row_so", "_law_got", "_law_goal"]
theorem sc__law_by_hand_right : FnScope n__law_by_hand_right [] (defScope (topS 22)) := ⟨rfl, rfl, rfl, by decide +kernel, rfl, by decide +kernel, by decide +kernel⟩
def b__law_by_hand_right : Sx := (sSeq (sSet 0 (e2 (lift2 powD) (eK (.int 10)) (eK (.int 30))))
    (sSeq (sSet 1 (e2 (lift2 addD) (e2 (lift2 addD) (eArgs mkTup (asCons (eArgs mkTup (asCons (eV 0) (asCons (eK (.int 4)) asNil))) asNil)) (eArgs mkTup (asCons (eArgs mkTup (asCons (eK (.int 1)) (asCons (eK (.int 2)) asNil))) asNil))) (eArgs mkTup (asCons (eArgs mkTup (asCons (eV 0) (asCons (eK (.int 6)) asNil))) (asCons (eArgs mkTup (asCons (eK (.int 3)) (asCons (eK (.int 1)) asNil))) asNil)))))
    (sSeq (sSet 2 (eArgs mkLst (asCons (eArgs (callF 1 f_islands_in) (asCons (eV 1) asNil)) (asCons (eArgs (callF 3 f_last_height) (asCons (eV 1) (asCons (eK (.int 0)) (asCons (eV 0) asNil)))) (asCons (eArgs (callF 3 f_last_height) (asCons (eV 1) (asCons (eV 0) (asCons (e2 (lift2 addD) (eV 0) (eK (.int 1))) asNil)))) asNil)))))
    (sSeq (sSet 2 (e2 (lift2 addD) (eV 2) (eArgs mkLst (asCons (eArgs (callF 3 f_last_height) (asCons (eV 1) (asCons (eK (.int 3)) (asCons (e2 (lift2 addD) (eV 0) (eK (.int 9))) asNil)))) asNil))))
    (sSeq (sSet 2 (e2 (lift2 addD) (eV 2) (eArgs mkLst (asCons (eArgs (callF 2 f_lots_at) (asCons (eV 1) (asCons (eK (.int 2)) asNil))) (asCons (eArgs (callF 3 f_lot_at) (asCons (eV 1) (asCons (eV 0) (asCons (eK (.int 1)) asNil)))) (asCons (eArgs (callF 2 f_greatest_lot) (asCons (eV 1) (asCons (eK (.int 1)) asNil))) asNil))))))
    (sSeq (sSet 2 (e2 (lift2 addD) (eV 2) (eArgs mkLst (asCons (eArgs (callF 2 f_how_many_joined) (asCons (eV 1) (asCons (eK (.int 5)) asNil))) asNil))))
    (sSeq (sSet 3 (eArgs mkLst (asCons (e2 (lift2 addD) (e2 (lift2 mulD) (eK (.int 2)) (eV 0)) (eK (.int 5))) (asCons (eK (.int 4)) (asCons (eK (.int 2)) (asCons (eK (.int 2)) (asCons (eK (.int 5)) (asCons (eArgs mkTup (asCons (eK (.int 0)) (asCons (e2 (lift2 addD) (e2 (lift2 mulD) (eK (.int 2)) (eV 0)) (eK (.int 1))) asNil))) (asCons (e2 (lift2 addD) (e2 (lift2 mulD) (eK (.int 2)) (eV 0)) (eK (.int 2))) (asCons (e2 (lift2 divD) (e2 (lift2 mulD) (e2 (lift2 addD) (eV 0) (eK (.int 1))) (eV 0)) (eK (.int 2))) asNil))))))))))
    (sRet (eArgs (callF 2 (f__law_same 8)) (asCons (eV 2) (asCons (eV 3) asNil)))))))))))
def f__law_by_hand_right : Fn := runF 4 b__law_by_hand_right
theorem ok__law_by_hand_right (B : Bn mg) (h_islands_in : GF P w K mg base cm 1 "islands_in" ["row"] f_islands_in) (h_last_height : GF P w K mg base cm 3 "last_height" ["row", "one", "other"] f_last_height) (h_lots_at : GF P w K mg base cm 1 "lots_at" ["row", "water"] f_lots_at) (h_lot_at : GF P w K mg base cm 3 "lot_at" ["row", "island", "water"] f_lot_at) (h_greatest_lot : GF P w K mg base cm 2 "greatest_lot" ["row", "water"] f_greatest_lot) (h_how_many_joined : GF P w K mg base cm 2 "how_many_joined" ["row", "water"] f_how_many_joined) (h__law_same : GF P w K mg base cm 9 "_law_same" ["_law_got", "_law_goal"] (f__law_same 8)) (F : L2.Fun K "_law_by_hand_right" "_law_by_hand_right" (topS 22) f fd) : FnOk P w K mg base (L2.CX P w) 10 f fd [] (spF cm 0 f__law_by_hand_right) :=
  gfn (k := 9) (N := n__law_by_hand_right) (ps := []) (b := b__law_by_hand_right) F sc__law_by_hand_right fun cdv A outer s H E hr => (gss_cons (gs_set (i := 0) sc__law_by_hand_right.nd rfl (by first | exact .inl rfl | exact .inr rfl) (g_op o_pow g_int g_int))
    (gss_cons (gs_set (i := 1) sc__law_by_hand_right.nd rfl (by first | exact .inl rfl | exact .inr rfl) (g_op o_add (g_op o_add (g_tup (ga_cons (g_tup (ga_cons (g_var 0) (ga_cons g_int ga_nil))) ga_nil)) (g_tup (ga_cons (g_tup (ga_cons g_int (ga_cons g_int ga_nil))) ga_nil))) (g_tup (ga_cons (g_tup (ga_cons (g_var 0) (ga_cons g_int ga_nil))) (ga_cons (g_tup (ga_cons g_int (ga_cons g_int ga_nil))) ga_nil)))))
    (gss_cons (gs_set (i := 2) sc__law_by_hand_right.nd rfl (by first | exact .inl rfl | exact .inr rfl) (g_lst (ga_cons (g_call h_islands_in (takes_of rfl rfl rfl rfl) (hr.mono (by decide)) (ga_cons (g_var 1) ga_nil)) (ga_cons (g_call h_last_height (takes_of rfl rfl rfl rfl) (hr.mono (by decide)) (ga_cons (g_var 1) (ga_cons g_int (ga_cons (g_var 0) ga_nil)))) (ga_cons (g_call h_last_height (takes_of rfl rfl rfl rfl) (hr.mono (by decide)) (ga_cons (g_var 1) (ga_cons (g_var 0) (ga_cons (g_op o_add (g_var 0) g_int) ga_nil)))) ga_nil)))))
    (gss_cons (gs_set (i := 2) sc__law_by_hand_right.nd rfl (by first | exact .inl rfl | exact .inr rfl) (g_op o_add (g_var 2) (g_lst (ga_cons (g_call h_last_height (takes_of rfl rfl rfl rfl) (hr.mono (by decide)) (ga_cons (g_var 1) (ga_cons g_int (ga_cons (g_op o_add (g_var 0) g_int) ga_nil)))) ga_nil))))
    (gss_cons (gs_set (i := 2) sc__law_by_hand_right.nd rfl (by first | exact .inl rfl | exact .inr rfl) (g_op o_add (g_var 2) (g_lst (ga_cons (g_call h_lots_at (takes_of rfl rfl rfl rfl) (hr.mono (by decide)) (ga_cons (g_var 1) (ga_cons g_int ga_nil))) (ga_cons (g_call h_lot_at (takes_of rfl rfl rfl rfl) (hr.mono (by decide)) (ga_cons (g_var 1) (ga_cons (g_var 0) (ga_cons g_int ga_nil)))) (ga_cons (g_call h_greatest_lot (takes_of rfl rfl rfl rfl) (hr.mono (by decide)) (ga_cons (g_var 1) (ga_cons g_int ga_nil))) ga_nil))))))
    (gss_cons (gs_set (i := 2) sc__law_by_hand_right.nd rfl (by first | exact .inl rfl | exact .inr rfl) (g_op o_add (g_var 2) (g_lst (ga_cons (g_call h_how_many_joined (takes_of rfl rfl rfl rfl) (hr.mono (by decide)) (ga_cons (g_var 1) (ga_cons g_int ga_nil))) ga_nil))))
    (gss_cons (gs_set (i := 3) sc__law_by_hand_right.nd rfl (by first | exact .inl rfl | exact .inr rfl) (g_lst (ga_cons (g_op o_add (g_op o_mul g_int (g_var 0)) g_int) (ga_cons g_int (ga_cons g_int (ga_cons g_int (ga_cons g_int (ga_cons (g_tup (ga_cons g_int (ga_cons (g_op o_add (g_op o_mul g_int (g_var 0)) g_int) ga_nil))) (ga_cons (g_op o_add (g_op o_mul g_int (g_var 0)) g_int) (ga_cons (g_op o_div (g_op o_mul (g_op o_add (g_var 0) g_int) (g_var 0)) g_int) ga_nil))))))))))
    (gss_one (gs_ret (g_call h__law_same (takes_of rfl rfl rfl rfl) (hr.mono (by decide)) (ga_cons (g_var 2) (ga_cons (g_var 3) ga_nil))))))))))))
/-! ## the law's right -/
abbrev n__law_right : List Str := ["_law_urn", "_law_turn", "_law_early", "_law_late", "_law_own", "_law_high", "_law_whole_so", "_law_near", "_law_far", "_law_tops", "_law_one_so", "_law_two_so", "_law_sides_so", "_law_due", "_law_got", "_law_level", "_law_count", "_law_first", "_law_last", "_law_across", "_law_pairs", "_law_low", "_law_mirror"]
theorem sc__law_right : FnScope n__law_right ["_law_urn"] (defScope (topS 23)) := ⟨rfl, rfl, rfl, by decide +kernel, rfl, by decide +kernel, by decide +kernel⟩
def b__law_right : Sx := (sSeq (sIf (eNotT (eTest (fun _ => callF 0 f__law_by_hand_right []))) (sRet (eK (.bool false))) sNil)
    (sSeq (sFor (.n 1) (iArgs rng1 (asCons (eK (.int 8)) asNil)) (sSeq (sAsg (.t [(.n 2), (.n 3)]) (eComp (.n 4) (iArgs rng1 (asCons (eK (.int 2)) asNil)) yesT (eArgs (callF 3 f__law_row) (asCons (eV 0) (asCons (eArgs (callF 2 f__law_of) (asCons (eV 0) (asCons (eArgs mkLst (asCons (eK (.int 3)) (asCons (e2 (lift2 powD) (eK (.int 10)) (eK (.int 30))) asNil))) asNil))) (asCons (eK (.int 5)) asNil)))) [4]))
    (sSeq (sSet 5 (eArgs (callF 2 f__law_take) (asCons (eV 0) (asCons (eK (.int 6)) asNil))))
    (sSeq (sPar3 6 7 8 (e2 (lift2 addD) (e2 (lift2 addD) (eV 2) (eArgs mkTup (asCons (eArgs mkTup (asCons (eK (.int 1)) (asCons (eV 5) asNil))) asNil))) (eV 3)) (eArgs (callF 1 f_islands_in) (asCons (eV 2) asNil)) (eArgs (callF 1 f_islands_in) (asCons (eV 3) asNil)))
    (sSeq (sSet 9 (e1 (lift1 ssF) (e2 (lift2 addD) (e2 (lift2 addD) (eArgs (callF 1 f_waters_of) (asCons (eV 2) asNil)) (eArgs (callF 1 f_waters_of) (asCons (eV 3) asNil))) (eArgs mkTup (asCons (eV 5) asNil)))))
    (sSeq (sIf (eNotT (eTest (eArgs (callF 2 (f__law_same 8)) (asCons (eArgs mkLst (asCons (eArgs (callF 1 f_islands_in) (asCons (eV 6) asNil)) (asCons (eArgs (callF 1 f_waters_of) (asCons (eV 6) asNil)) asNil))) (asCons (eArgs mkLst (asCons (e2 (lift2 addD) (eV 7) (eV 8)) (asCons (eArgs (liftA fTuple) (asCons (eV 9) asNil)) asNil))) asNil))))) (sRet (eK (.bool false))) sNil)
    (sSeq (sPar 10 11 (eArgs (callF 2 f__law_take) (asCons (eV 0) (asCons (eV 7) asNil))) (eArgs (callF 2 f__law_take) (asCons (eV 0) (asCons (eV 8) asNil))))
    (sSeq (sSet 12 (eArgs mkLst (asCons (eArgs (callF 3 f_last_height) (asCons (eV 2) (asCons (eV 10) (asCons (e2 (lift2 subD) (eV 7) (eK (.int 1))) asNil)))) (asCons (eArgs (callF 3 f_last_height) (asCons (eV 3) (asCons (eK (.int 0)) (asCons (eV 11) asNil)))) asNil))))
    (sSeq (sSet 13 (eArgs (liftA fMin) (asCons (e2 (lift2 addD) (eArgs mkLst (asCons (eV 5) asNil)) (eComp (.n 4) (iSq (eV 12)) (eTest (e2 (lift2 isnF) (eV 4) (eK .none))) (eV 4) [4])) asNil)))
    (sSeq (sSet 14 (eArgs mkLst (asCons (eArgs (callF 3 f_last_height) (asCons (eV 6) (asCons (eV 10) (asCons (e2 (lift2 addD) (eV 7) (eV 11)) asNil)))) asNil)))
    (sSeq (sSet 14 (e2 (lift2 addD) (eV 14) (eArgs mkLst (asCons (eArgs (callF 3 f_last_height) (asCons (eV 6) (asCons (e2 (lift2 addD) (eV 7) (eV 11)) (asCons (eV 10) asNil)))) asNil))))
    (sSeq (sIf (eNotT (eTest (eArgs (callF 2 (f__law_same 8)) (asCons (eV 14) (asCons (eArgs mkLst (asCons (eV 13) (asCons (eV 13) asNil))) asNil))))) (sRet (eK (.bool false))) sNil)
    (sSeq (sIf (eNotT (eTest (eArgs (callF 2 (f__law_same 8)) (asCons (eArgs (callF 3 f_last_height) (asCons (eV 6) (asCons (eV 10) (asCons (e2 (lift2 subD) (eV 7) (eK (.int 1))) asNil)))) (asCons (e2 (lift2 ixLT) (eV 12) (eK (.int 0))) asNil))))) (sRet (eK (.bool false))) sNil)
    (sFor (.n 15) (iArgs rng1 (asCons (eK (.int 6)) asNil)) (sSeq (sSet 16 (e2 (lift2 subD) (e2 (lift2 addD) (eArgs (callF 2 f_lots_at) (asCons (eV 2) (asCons (eV 15) asNil))) (eArgs (callF 2 f_lots_at) (asCons (eV 3) (asCons (eV 15) asNil)))) (eArgs (liftA fInt) (asCons (e2 (lift2 gtF) (eV 5) (eV 15)) asNil))))
    (sSeq (sPar 17 18 (eArgs (callF 3 f_lot_at) (asCons (eV 2) (asCons (e2 (lift2 subD) (eV 7) (eK (.int 1))) (asCons (eV 15) asNil)))) (eArgs (callF 3 f_lot_at) (asCons (eV 3) (asCons (eK (.int 0)) (asCons (eV 15) asNil)))))
    (sSeq (sSet 19 (e2 (lift2 mulD) (e2 (lift2 mulD) (e2 (lift2 subD) (eV 7) (e2 (lift2 ixLT) (eV 17) (eK (.int 0)))) (e2 (lift2 addD) (e2 (lift2 ixLT) (eV 18) (eK (.int 1))) (eK (.int 1)))) (eArgs (liftA fInt) (asCons (e2 (lift2 gtF) (eV 5) (eV 15)) asNil))))
    (sSeq (sSet 14 (eArgs mkLst (asCons (eArgs (callF 2 f_lots_at) (asCons (eV 6) (asCons (eV 15) asNil))) (asCons (eArgs (callF 2 f_how_many_joined) (asCons (eV 6) (asCons (eV 15) asNil))) asNil))))
    (sSeq (sSet 14 (e2 (lift2 addD) (eV 14) (eArgs mkLst (asCons (eArgs (callF 3 f_lot_at) (asCons (eV 6) (asCons (eV 7) (asCons (eV 15) asNil)))) asNil))))
    (sSeq (sSet 20 (e2 (lift2 addD) (e2 (lift2 addD) (eArgs (callF 2 f_how_many_joined) (asCons (eV 2) (asCons (eV 15) asNil))) (eArgs (callF 2 f_how_many_joined) (asCons (eV 3) (asCons (eV 15) asNil)))) (eV 19)))
    (sSeq (sSet 21 (eIf (eTest (e2 (lift2 gtF) (eV 5) (eV 15))) (e2 (lift2 ixLT) (eV 17) (eK (.int 0))) (eV 7)))
    (sSeq (sIf (eNotT (eTest (eArgs (callF 2 (f__law_same 8)) (asCons (eV 14) (asCons (eArgs mkLst (asCons (eV 16) (asCons (eV 20) (asCons (eArgs mkTup (asCons (eV 21) (asCons (e2 (lift2 addD) (eV 7) (e2 (lift2 ixLT) (eV 18) (eK (.int 1)))) asNil))) asNil)))) asNil))))) (sRet (eK (.bool false))) sNil)
    (sSeq (sSet 22 (e1 (lift1 rev2F) (eV 6)))
    (sSeq (sSet 14 (eArgs mkLst (asCons (eArgs (callF 2 f_lots_at) (asCons (eV 22) (asCons (eV 15) asNil))) (asCons (eArgs (callF 2 f_greatest_lot) (asCons (eV 22) (asCons (eV 15) asNil))) (asCons (eArgs (callF 2 f_how_many_joined) (asCons (eV 22) (asCons (eV 15) asNil))) asNil)))))
    (sIf (eNotT (eTest (eArgs (callF 2 (f__law_same 8)) (asCons (eV 14) (asCons (eArgs mkLst (asCons (eV 16) (asCons (eArgs (callF 2 f_greatest_lot) (asCons (eV 6) (asCons (eV 15) asNil))) (asCons (eArgs (callF 2 f_how_many_joined) (asCons (eV 6) (asCons (eV 15) asNil))) asNil)))) asNil))))) (sRet (eK (.bool false))) sNil)))))))))))))))))))))))))
    (sRet (eK (.bool true)))))
def f__law_right : Fn := runF 23 b__law_right
theorem ok__law_right (B : Bn mg) (h_islands_in : GF P w K mg base cm 1 "islands_in" ["row"] f_islands_in) (h_last_height : GF P w K mg base cm 3 "last_height" ["row", "one", "other"] f_last_height) (h_lots_at : GF P w K mg base cm 1 "lots_at" ["row", "water"] f_lots_at) (h_lot_at : GF P w K mg base cm 3 "lot_at" ["row", "island", "water"] f_lot_at) (h_greatest_lot : GF P w K mg base cm 2 "greatest_lot" ["row", "water"] f_greatest_lot) (h_how_many_joined : GF P w K mg base cm 2 "how_many_joined" ["row", "water"] f_how_many_joined) (h_waters_of : GF P w K mg base cm 2 "waters_of" ["row"] f_waters_of) (h__law_take : GF P w K mg base cm 1 "_law_take" ["_law_urn", "_law_low_so"] f__law_take) (h__law_of : GF P w K mg base cm 2 "_law_of" ["_law_urn", "_law_some_so"] f__law_of) (h__law_same : GF P w K mg base cm 9 "_law_same" ["_law_got", "_law_goal"] (f__law_same 8)) (h__law_row : GF P w K mg base cm 2 "_law_row" ["_law_urn", "_law_most", "_law_top"] f__law_row) (h__law_by_hand_right : GF P w K mg base cm 10 "_law_by_hand_right" [] f__law_by_hand_right) (F : L2.Fun K "_law_right" "_law_right" (topS 23) f fd) : FnOk P w K mg base (L2.CX P w) 11 f fd ["_law_urn"] (spF cm 1 f__law_right) :=
  gfn (k := 10) (N := n__law_right) (ps := ["_law_urn"]) (b := b__law_right) F sc__law_right fun cdv A outer s H E hr => (gss_cons (gs_if (gt_not (gt_val (g_call0 h__law_by_hand_right (takes_of rfl rfl rfl rfl) (hr.mono (by decide))))) (gss_one (gs_ret g_bl)) gss_nil)
    (gss_cons (gs_for (passes_of rfl) rfl (gi_range1 B.range (ga_cons g_int ga_nil)) (gg_name (i := 1) sc__law_right.nd rfl (by first | exact .inl rfl | exact .inr rfl)) (gss_cons (gs_asg (g_comp (own := [("_law_own", 4)]) rfl sc__law_right.nd (gi_range1 B.range (ga_cons g_int ga_nil)) (blkOk_by (own := [("_law_own", 4)]) (N := n__law_right) (sc := (defScope (topS 23))) (by decide +kernel)) (fun _ _ _ _ _ => (gg_name (i := 4) sc__law_right.nd rfl (by first | exact .inl rfl | exact .inr rfl))) (fun _ _ _ _ _ => gts_nil) (fun _ _ _ _ _ => (g_call h__law_row takes0 (hr.mono (by decide)) (ga_cons (g_var 0) (ga_cons (g_call h__law_of takes0 (hr.mono (by decide)) (ga_cons (g_var 0) (ga_cons (g_lst (ga_cons g_int (ga_cons (g_op o_pow g_int g_int) ga_nil))) ga_nil))) (ga_cons g_int ga_nil)))))) (gg_tup rfl (ggs_cons (gg_name (i := 2) sc__law_right.nd rfl (by first | exact .inl rfl | exact .inr rfl)) (ggs_cons (gg_name (i := 3) sc__law_right.nd rfl (by first | exact .inl rfl | exact .inr rfl)) ggs_nil))))
    (gss_cons (gs_set (i := 5) sc__law_right.nd rfl (by first | exact .inl rfl | exact .inr rfl) (g_call h__law_take (takes_of rfl rfl rfl rfl) (hr.mono (by decide)) (ga_cons (g_var 0) (ga_cons g_int ga_nil))))
    (gss_cons (gs_par3 (i := 6) (j := 7) (l := 8) rfl sc__law_right.nd rfl rfl rfl (by decide) (by decide) (by decide) rfl rfl rfl (g_op o_add (g_op o_add (g_var 2) (g_tup (ga_cons (g_tup (ga_cons g_int (ga_cons (g_var 5) ga_nil))) ga_nil))) (g_var 3)) (g_call h_islands_in (takes_of rfl rfl rfl rfl) (hr.mono (by decide)) (ga_cons (g_var 2) ga_nil)) (g_call h_islands_in (takes_of rfl rfl rfl rfl) (hr.mono (by decide)) (ga_cons (g_var 3) ga_nil)) rfl rfl rfl rfl)
    (gss_cons (gs_set (i := 9) sc__law_right.nd rfl (by first | exact .inl rfl | exact .inr rfl) (g_ss rfl B.sorted B.set (g_op o_add (g_op o_add (g_call h_waters_of (takes_of rfl rfl rfl rfl) (hr.mono (by decide)) (ga_cons (g_var 2) ga_nil)) (g_call h_waters_of (takes_of rfl rfl rfl rfl) (hr.mono (by decide)) (ga_cons (g_var 3) ga_nil))) (g_tup (ga_cons (g_var 5) ga_nil)))))
    (gss_cons (gs_if (gt_not (gt_val (g_call h__law_same (takes_of rfl rfl rfl rfl) (hr.mono (by decide)) (ga_cons (g_lst (ga_cons (g_call h_islands_in (takes_of rfl rfl rfl rfl) (hr.mono (by decide)) (ga_cons (g_var 6) ga_nil)) (ga_cons (g_call h_waters_of (takes_of rfl rfl rfl rfl) (hr.mono (by decide)) (ga_cons (g_var 6) ga_nil)) ga_nil))) (ga_cons (g_lst (ga_cons (g_op o_add (g_var 7) (g_var 8)) (ga_cons (g_callTy c_tuple B.tuple (ga_cons (g_var 9) ga_nil)) ga_nil))) ga_nil))))) (gss_one (gs_ret g_bl)) gss_nil)
    (gss_cons (gs_par (i := 10) (j := 11) rfl sc__law_right.nd rfl rfl (by decide) rfl rfl (g_call h__law_take (takes_of rfl rfl rfl rfl) (hr.mono (by decide)) (ga_cons (g_var 0) (ga_cons (g_var 7) ga_nil))) (g_call h__law_take (takes_of rfl rfl rfl rfl) (hr.mono (by decide)) (ga_cons (g_var 0) (ga_cons (g_var 8) ga_nil))) rfl rfl rfl)
    (gss_cons (gs_set (i := 12) sc__law_right.nd rfl (by first | exact .inl rfl | exact .inr rfl) (g_lst (ga_cons (g_call h_last_height (takes_of rfl rfl rfl rfl) (hr.mono (by decide)) (ga_cons (g_var 2) (ga_cons (g_var 10) (ga_cons (g_op o_sub (g_var 7) g_int) ga_nil)))) (ga_cons (g_call h_last_height (takes_of rfl rfl rfl rfl) (hr.mono (by decide)) (ga_cons (g_var 3) (ga_cons g_int (ga_cons (g_var 11) ga_nil)))) ga_nil))))
    (gss_cons (gs_set (i := 13) sc__law_right.nd rfl (by first | exact .inl rfl | exact .inr rfl) (g_callB (c_min rfl) B.min (ga_cons (g_op o_add (g_lst (ga_cons (g_var 5) ga_nil)) (g_comp (own := [("_law_own", 4)]) rfl sc__law_right.nd (gi_seq (g_var 12)) (blkOk_by (own := [("_law_own", 4)]) (N := n__law_right) (sc := (defScope (topS 23))) (by decide +kernel)) (fun _ _ _ _ _ => (gg_name (i := 4) sc__law_right.nd rfl (by first | exact .inl rfl | exact .inr rfl))) (fun _ _ _ _ _ => (gts_one (gt_cmp o_isn (g_var 4) g_non (nomark _)))) (fun _ _ _ _ _ => (g_var 4)))) ga_nil)))
    (gss_cons (gs_set (i := 14) sc__law_right.nd rfl (by first | exact .inl rfl | exact .inr rfl) (g_lst (ga_cons (g_call h_last_height (takes_of rfl rfl rfl rfl) (hr.mono (by decide)) (ga_cons (g_var 6) (ga_cons (g_var 10) (ga_cons (g_op o_add (g_var 7) (g_var 11)) ga_nil)))) ga_nil)))
    (gss_cons (gs_set (i := 14) sc__law_right.nd rfl (by first | exact .inl rfl | exact .inr rfl) (g_op o_add (g_var 14) (g_lst (ga_cons (g_call h_last_height (takes_of rfl rfl rfl rfl) (hr.mono (by decide)) (ga_cons (g_var 6) (ga_cons (g_op o_add (g_var 7) (g_var 11)) (ga_cons (g_var 10) ga_nil)))) ga_nil))))
    (gss_cons (gs_if (gt_not (gt_val (g_call h__law_same (takes_of rfl rfl rfl rfl) (hr.mono (by decide)) (ga_cons (g_var 14) (ga_cons (g_lst (ga_cons (g_var 13) (ga_cons (g_var 13) ga_nil))) ga_nil))))) (gss_one (gs_ret g_bl)) gss_nil)
    (gss_cons (gs_if (gt_not (gt_val (g_call h__law_same (takes_of rfl rfl rfl rfl) (hr.mono (by decide)) (ga_cons (g_call h_last_height (takes_of rfl rfl rfl rfl) (hr.mono (by decide)) (ga_cons (g_var 6) (ga_cons (g_var 10) (ga_cons (g_op o_sub (g_var 7) g_int) ga_nil)))) (ga_cons (g_ix i_seq (g_var 12) g_int) ga_nil))))) (gss_one (gs_ret g_bl)) gss_nil)
    (gss_one (gs_for (passes_of rfl) rfl (gi_range1 B.range (ga_cons g_int ga_nil)) (gg_name (i := 15) sc__law_right.nd rfl (by first | exact .inl rfl | exact .inr rfl)) (gss_cons (gs_set (i := 16) sc__law_right.nd rfl (by first | exact .inl rfl | exact .inr rfl) (g_op o_sub (g_op o_add (g_call h_lots_at (takes_of rfl rfl rfl rfl) (hr.mono (by decide)) (ga_cons (g_var 2) (ga_cons (g_var 15) ga_nil))) (g_call h_lots_at (takes_of rfl rfl rfl rfl) (hr.mono (by decide)) (ga_cons (g_var 3) (ga_cons (g_var 15) ga_nil)))) (g_callTy c_int B.int (ga_cons (g_cmp o_gt (g_var 5) (g_var 15) (nomark _)) ga_nil))))
    (gss_cons (gs_par (i := 17) (j := 18) rfl sc__law_right.nd rfl rfl (by decide) rfl rfl (g_call h_lot_at (takes_of rfl rfl rfl rfl) (hr.mono (by decide)) (ga_cons (g_var 2) (ga_cons (g_op o_sub (g_var 7) g_int) (ga_cons (g_var 15) ga_nil)))) (g_call h_lot_at (takes_of rfl rfl rfl rfl) (hr.mono (by decide)) (ga_cons (g_var 3) (ga_cons g_int (ga_cons (g_var 15) ga_nil)))) rfl rfl rfl)
    (gss_cons (gs_set (i := 19) sc__law_right.nd rfl (by first | exact .inl rfl | exact .inr rfl) (g_op o_mul (g_op o_mul (g_op o_sub (g_var 7) (g_ix i_seq (g_var 17) g_int)) (g_op o_add (g_ix i_seq (g_var 18) g_int) g_int)) (g_callTy c_int B.int (ga_cons (g_cmp o_gt (g_var 5) (g_var 15) (nomark _)) ga_nil))))
    (gss_cons (gs_set (i := 14) sc__law_right.nd rfl (by first | exact .inl rfl | exact .inr rfl) (g_lst (ga_cons (g_call h_lots_at (takes_of rfl rfl rfl rfl) (hr.mono (by decide)) (ga_cons (g_var 6) (ga_cons (g_var 15) ga_nil))) (ga_cons (g_call h_how_many_joined (takes_of rfl rfl rfl rfl) (hr.mono (by decide)) (ga_cons (g_var 6) (ga_cons (g_var 15) ga_nil))) ga_nil))))
    (gss_cons (gs_set (i := 14) sc__law_right.nd rfl (by first | exact .inl rfl | exact .inr rfl) (g_op o_add (g_var 14) (g_lst (ga_cons (g_call h_lot_at (takes_of rfl rfl rfl rfl) (hr.mono (by decide)) (ga_cons (g_var 6) (ga_cons (g_var 7) (ga_cons (g_var 15) ga_nil)))) ga_nil))))
    (gss_cons (gs_set (i := 20) sc__law_right.nd rfl (by first | exact .inl rfl | exact .inr rfl) (g_op o_add (g_op o_add (g_call h_how_many_joined (takes_of rfl rfl rfl rfl) (hr.mono (by decide)) (ga_cons (g_var 2) (ga_cons (g_var 15) ga_nil))) (g_call h_how_many_joined (takes_of rfl rfl rfl rfl) (hr.mono (by decide)) (ga_cons (g_var 3) (ga_cons (g_var 15) ga_nil)))) (g_var 19)))
    (gss_cons (gs_set (i := 21) sc__law_right.nd rfl (by first | exact .inl rfl | exact .inr rfl) (g_if (gt_cmp o_gt (g_var 5) (g_var 15) (nomark _)) (g_ix i_seq (g_var 17) g_int) (g_var 7)))
    (gss_cons (gs_if (gt_not (gt_val (g_call h__law_same (takes_of rfl rfl rfl rfl) (hr.mono (by decide)) (ga_cons (g_var 14) (ga_cons (g_lst (ga_cons (g_var 16) (ga_cons (g_var 20) (ga_cons (g_tup (ga_cons (g_var 21) (ga_cons (g_op o_add (g_var 7) (g_ix i_seq (g_var 18) g_int)) ga_nil))) ga_nil)))) ga_nil))))) (gss_one (gs_ret g_bl)) gss_nil)
    (gss_cons (gs_set (i := 22) sc__law_right.nd rfl (by first | exact .inl rfl | exact .inr rfl) (g_rev2 (g_var 6)))
    (gss_cons (gs_set (i := 14) sc__law_right.nd rfl (by first | exact .inl rfl | exact .inr rfl) (g_lst (ga_cons (g_call h_lots_at (takes_of rfl rfl rfl rfl) (hr.mono (by decide)) (ga_cons (g_var 22) (ga_cons (g_var 15) ga_nil))) (ga_cons (g_call h_greatest_lot (takes_of rfl rfl rfl rfl) (hr.mono (by decide)) (ga_cons (g_var 22) (ga_cons (g_var 15) ga_nil))) (ga_cons (g_call h_how_many_joined (takes_of rfl rfl rfl rfl) (hr.mono (by decide)) (ga_cons (g_var 22) (ga_cons (g_var 15) ga_nil))) ga_nil)))))
    (gss_one (gs_if (gt_not (gt_val (g_call h__law_same (takes_of rfl rfl rfl rfl) (hr.mono (by decide)) (ga_cons (g_var 14) (ga_cons (g_lst (ga_cons (g_var 16) (ga_cons (g_call h_greatest_lot (takes_of rfl rfl rfl rfl) (hr.mono (by decide)) (ga_cons (g_var 6) (ga_cons (g_var 15) ga_nil))) (ga_cons (g_call h_how_many_joined (takes_of rfl rfl rfl rfl) (hr.mono (by decide)) (ga_cons (g_var 6) (ga_cons (g_var 15) ga_nil))) ga_nil)))) ga_nil))))) (gss_one (gs_ret g_bl)) gss_nil)))))))))))))))))))))))))))
    (gss_one (gs_ret g_bl))))
end
end Sm

set_option maxHeartbeats 4000000
namespace Sm
open PySem PySem.Spec PyProof.Rows L2 Lf
theorem hand98 (S : Sto) : f__law_by_hand_right [] S = .ok (.d (.bool true)) S := by kernel_rfl
end Sm

set_option maxHeartbeats 1000000
namespace Sm
open PySem PySem.Spec PyProof.Rows L2 Lf

/-! ## one level -/
theorem ev_l1 {ρ : Env} {S S1 : Sto} {e : Ex} {p : PyData} (h : e ρ S = .ok (.d p) S1) : eArgs mkLst (asCons e asNil) ρ S = .ok (.d (.list [p])) S1 := by
  rw [eArgs_eq, asCons_eq, h, rbind_ok, asNil_eq, rbind_ok, rbind_ok]
  rfl
theorem ev_l2 {ρ : Env} {S S1 S2 : Sto} {e e' : Ex} {p q : PyData} (h : e ρ S = .ok (.d p) S1) (k : e' ρ S1 = .ok (.d q) S2) : eArgs mkLst (asCons e (asCons e' asNil)) ρ S = .ok (.d (.list [p, q])) S2 := by
  rw [eArgs_eq, asCons_eq, h, rbind_ok, asCons_eq, k, rbind_ok, asNil_eq, rbind_ok, rbind_ok, rbind_ok]
  rfl
theorem ev_l3 {ρ : Env} {S S1 S2 S3 : Sto} {e e' e'' : Ex} {p q r : PyData} (h : e ρ S = .ok (.d p) S1) (k : e' ρ S1 = .ok (.d q) S2) (l : e'' ρ S2 = .ok (.d r) S3) : eArgs mkLst (asCons e (asCons e' (asCons e'' asNil))) ρ S = .ok (.d (.list [p, q, r])) S3 := by
  rw [eArgs_eq, asCons_eq, h, rbind_ok, asCons_eq, k, rbind_ok, asCons_eq, l, rbind_ok, asNil_eq, rbind_ok, rbind_ok, rbind_ok, rbind_ok]
  rfl
theorem ev_t1 {ρ : Env} {S S1 : Sto} {e : Ex} {p : PyData} (h : e ρ S = .ok (.d p) S1) : eArgs mkTup (asCons e asNil) ρ S = .ok (.d (.tuple [p])) S1 := by
  rw [eArgs_eq, asCons_eq, h, rbind_ok, asNil_eq, rbind_ok, rbind_ok]
  rfl
theorem ev_ifT {ρ : Env} {S S1 S2 : Sto} {c : Env → M Bool} {e e' : Ex} {x : Vl} (h : c ρ S = .ok true S1) (k : e ρ S1 = .ok x S2) : eIf c e e' ρ S = .ok x S2 := by
  unfold eIf
  rw [h]
  exact k
theorem ev_ifF {ρ : Env} {S S1 S2 : Sto} {c : Env → M Bool} {e e' : Ex} {x : Vl} (h : c ρ S = .ok false S1) (k : e' ρ S1 = .ok x S2) : eIf c e e' ρ S = .ok x S2 := by
  unfold eIf
  rw [h]
  exact k
theorem fInt_b {h v : Int} : fInt [.bool (decide (v < h))] = some (.int (if v < h then 1 else 0)) := by
  by_cases c : v < h
  · rw [decide_eq_true c, if_pos c]; rfl
  · rw [decide_eq_false c, if_neg c]; rfl
theorem smallI_mul {a b : Int} (a0 : 0 ≤ a) (a1 : a < 2 ^ 200) (b0 : 0 ≤ b) (b1 : b < 2 ^ 200) : smallI (a * b) = true := by
  refine smallI_of ?_
  rw [Int.natAbs_mul]
  have h1 : a.natAbs < 2 ^ 200 := by omega
  have h2 : b.natAbs < 2 ^ 200 := by omega
  exact Nat.lt_trans (Nat.mul_lt_mul'' h1 h2) (by decide +kernel)
theorem pairs_mid {es ls : Row} (he : RowOk es) (hl : RowOk ls) (h v : Int) : joinedAt es v + joinedAt ls v + (1 + tot es - loL es (tot es) v) * (hiL ls 0 v + 1) * (if v < h then 1 else 0) = joinedAt (es ++ (1, h) :: ls) v := by
  rw [joined_mid, last_block he, first_block hl]
  split
  · rw [Int.mul_one]
  · rw [Int.mul_zero]
theorem same98 (S : Sto) {d : PyData} (h : simple 7 d = true) : f__law_same 8 [.d d, .d d] S = .ok (.d (.bool true)) S := same_ok S 7 d h
theorem wlen {es ls : Row} {h : Int} (h1 : es.length ≤ 9) (h2 : ls.length ≤ 9) : (es ++ (1, h) :: ls).length ≤ 19 := by
  rw [List.length_append, List.length_cons]
  omega
def levB : Sx := (sSeq (sSet 16 (e2 (lift2 subD) (e2 (lift2 addD) (eArgs (callF 2 f_lots_at) (asCons (eV 2) (asCons (eV 15) asNil))) (eArgs (callF 2 f_lots_at) (asCons (eV 3) (asCons (eV 15) asNil)))) (eArgs (liftA fInt) (asCons (e2 (lift2 gtF) (eV 5) (eV 15)) asNil))))
    (sSeq (sPar 17 18 (eArgs (callF 3 f_lot_at) (asCons (eV 2) (asCons (e2 (lift2 subD) (eV 7) (eK (.int 1))) (asCons (eV 15) asNil)))) (eArgs (callF 3 f_lot_at) (asCons (eV 3) (asCons (eK (.int 0)) (asCons (eV 15) asNil)))))
    (sSeq (sSet 19 (e2 (lift2 mulD) (e2 (lift2 mulD) (e2 (lift2 subD) (eV 7) (e2 (lift2 ixLT) (eV 17) (eK (.int 0)))) (e2 (lift2 addD) (e2 (lift2 ixLT) (eV 18) (eK (.int 1))) (eK (.int 1)))) (eArgs (liftA fInt) (asCons (e2 (lift2 gtF) (eV 5) (eV 15)) asNil))))
    (sSeq (sSet 14 (eArgs mkLst (asCons (eArgs (callF 2 f_lots_at) (asCons (eV 6) (asCons (eV 15) asNil))) (asCons (eArgs (callF 2 f_how_many_joined) (asCons (eV 6) (asCons (eV 15) asNil))) asNil))))
    (sSeq (sSet 14 (e2 (lift2 addD) (eV 14) (eArgs mkLst (asCons (eArgs (callF 3 f_lot_at) (asCons (eV 6) (asCons (eV 7) (asCons (eV 15) asNil)))) asNil))))
    (sSeq (sSet 20 (e2 (lift2 addD) (e2 (lift2 addD) (eArgs (callF 2 f_how_many_joined) (asCons (eV 2) (asCons (eV 15) asNil))) (eArgs (callF 2 f_how_many_joined) (asCons (eV 3) (asCons (eV 15) asNil)))) (eV 19)))
    (sSeq (sSet 21 (eIf (eTest (e2 (lift2 gtF) (eV 5) (eV 15))) (e2 (lift2 ixLT) (eV 17) (eK (.int 0))) (eV 7)))
    (sSeq (sIf (eNotT (eTest (eArgs (callF 2 (f__law_same 8)) (asCons (eV 14) (asCons (eArgs mkLst (asCons (eV 16) (asCons (eV 20) (asCons (eArgs mkTup (asCons (eV 21) (asCons (e2 (lift2 addD) (eV 7) (e2 (lift2 ixLT) (eV 18) (eK (.int 1)))) asNil))) asNil)))) asNil))))) (sRet (eK (.bool false))) sNil)
    (sSeq (sSet 22 (e1 (lift1 rev2F) (eV 6)))
    (sSeq (sSet 14 (eArgs mkLst (asCons (eArgs (callF 2 f_lots_at) (asCons (eV 22) (asCons (eV 15) asNil))) (asCons (eArgs (callF 2 f_greatest_lot) (asCons (eV 22) (asCons (eV 15) asNil))) (asCons (eArgs (callF 2 f_how_many_joined) (asCons (eV 22) (asCons (eV 15) asNil))) asNil)))))
    (sIf (eNotT (eTest (eArgs (callF 2 (f__law_same 8)) (asCons (eV 14) (asCons (eArgs mkLst (asCons (eV 16) (asCons (eArgs (callF 2 f_greatest_lot) (asCons (eV 6) (asCons (eV 15) asNil))) (asCons (eArgs (callF 2 f_how_many_joined) (asCons (eV 6) (asCons (eV 15) asNil))) asNil)))) asNil))))) (sRet (eK (.bool false))) sNil)))))))))))
theorem lev_ok {es ls : Row} {h : Int} (he : RowOk es) (hl : RowOk ls) (l1 : es.length ≤ 9) (l2 : ls.length ≤ 9) (hh : 0 ≤ h) (b1 : tot es < 2 ^ 180) (b2 : tot ls < 2 ^ 180) (S : Sto) (v : Int) (x1 x4 x9 x10 x11 x12 x13 x14 x16 x17 x18 x19 x20 x21 x22 : Option Vl) :
    ∃ y14 y16 y17 y18 y19 y20 y21 y22, Nxs levB [some (.c 0), x1, some (.d (rowD es)), some (.d (rowD ls)), x4, some (.d (.int h)), some (.d (rowD (es ++ (1, h) :: ls))), some (.d (.int (1 + tot es))), some (.d (.int (1 + tot ls))), x9, x10, x11, x12, x13, x14, some (.d (.int v)), x16, x17, x18, x19, x20, x21, x22] S [some (.c 0), x1, some (.d (rowD es)), some (.d (rowD ls)), x4, some (.d (.int h)), some (.d (rowD (es ++ (1, h) :: ls))), some (.d (.int (1 + tot es))), some (.d (.int (1 + tot ls))), x9, x10, x11, x12, x13, y14, some (.d (.int v)), y16, y17, y18, y19, y20, y21, y22] S := by
  have hW := ok_mid he hl l1 l2 hh
  have tm := tot_mid es ls h
  have te := tot_nonneg he.pos
  have tl := tot_nonneg hl.pos
  have bW : tot (es ++ (1, h) :: ls) < 2 ^ 190 := by omega
  have ie : 0 ≤ tot es ∧ tot es < 1 + tot es := by omega
  have il : (0 : Int) ≤ 0 ∧ 0 < 1 + tot ls := by omega
  have iW : 0 ≤ 1 + tot es ∧ 1 + tot es < 1 + tot (es ++ (1, h) :: ls) := by omega
  have s1 : Nxs (sSet 16 (e2 (lift2 subD) (e2 (lift2 addD) (eArgs (callF 2 f_lots_at) (asCons (eV 2) (asCons (eV 15) asNil))) (eArgs (callF 2 f_lots_at) (asCons (eV 3) (asCons (eV 15) asNil)))) (eArgs (liftA fInt) (asCons (e2 (lift2 gtF) (eV 5) (eV 15)) asNil)))) [some (.c 0), x1, some (.d (rowD es)), some (.d (rowD ls)), x4, some (.d (.int h)), some (.d (rowD (es ++ (1, h) :: ls))), some (.d (.int (1 + tot es))), some (.d (.int (1 + tot ls))), x9, x10, x11, x12, x13, x14, some (.d (.int v)), x16, x17, x18, x19, x20, x21, x22] S [some (.c 0), x1, some (.d (rowD es)), some (.d (rowD ls)), x4, some (.d (.int h)), some (.d (rowD (es ++ (1, h) :: ls))), some (.d (.int (1 + tot es))), some (.d (.int (1 + tot ls))), x9, x10, x11, x12, x13, x14, some (.d (.int v)), some (.d (.int (lotsAt (es ++ (1, h) :: ls) v))), x17, x18, x19, x20, x21, x22] S :=
    .set (ev_2 (ev_2 (ev_c2 rfl rfl rfl rfl (lots_ok he v S)) (ev_c2 rfl rfl rfl rfl (lots_ok hl v S)) addD_ii) (ev_A1 (ev_2 rfl rfl gtF_ii) fInt_b) (by rw [subD_ii, lots_mid]))
  have s2 : Nxs (sPar 17 18 (eArgs (callF 3 f_lot_at) (asCons (eV 2) (asCons (e2 (lift2 subD) (eV 7) (eK (.int 1))) (asCons (eV 15) asNil)))) (eArgs (callF 3 f_lot_at) (asCons (eV 3) (asCons (eK (.int 0)) (asCons (eV 15) asNil))))) [some (.c 0), x1, some (.d (rowD es)), some (.d (rowD ls)), x4, some (.d (.int h)), some (.d (rowD (es ++ (1, h) :: ls))), some (.d (.int (1 + tot es))), some (.d (.int (1 + tot ls))), x9, x10, x11, x12, x13, x14, some (.d (.int v)), some (.d (.int (lotsAt (es ++ (1, h) :: ls) v))), x17, x18, x19, x20, x21, x22] S [some (.c 0), x1, some (.d (rowD es)), some (.d (rowD ls)), x4, some (.d (.int h)), some (.d (rowD (es ++ (1, h) :: ls))), some (.d (.int (1 + tot es))), some (.d (.int (1 + tot ls))), x9, x10, x11, x12, x13, x14, some (.d (.int v)), some (.d (.int (lotsAt (es ++ (1, h) :: ls) v))), some (.d (.tuple [.int (loL es (tot es) v), .int (hiL es (tot es) v)])), some (.d (.tuple [.int (loL ls 0 v), .int (hiL ls 0 v)])), x19, x20, x21, x22] S :=
    .par (ev_c3 rfl (ev_2 rfl rfl (by rw [subD_ii, show 1 + tot es - 1 = tot es by omega])) rfl rfl rfl rfl (lot_ok he S ie)) (ev_c3 rfl rfl rfl rfl rfl rfl (lot_ok hl S il))
  have n1 := lot_near (rs := es) (x := tot es) (w := v) ie
  have n2 := lot_near (rs := ls) (x := 0) (w := v) il
  have n3 := hi_in (rs := ls) (x := 0) (w := v) il
  have n4 := (lo_le.mp (Int.le_refl (loL es (tot es) v))).1
  have s3 : Nxs (sSet 19 (e2 (lift2 mulD) (e2 (lift2 mulD) (e2 (lift2 subD) (eV 7) (e2 (lift2 ixLT) (eV 17) (eK (.int 0)))) (e2 (lift2 addD) (e2 (lift2 ixLT) (eV 18) (eK (.int 1))) (eK (.int 1)))) (eArgs (liftA fInt) (asCons (e2 (lift2 gtF) (eV 5) (eV 15)) asNil)))) [some (.c 0), x1, some (.d (rowD es)), some (.d (rowD ls)), x4, some (.d (.int h)), some (.d (rowD (es ++ (1, h) :: ls))), some (.d (.int (1 + tot es))), some (.d (.int (1 + tot ls))), x9, x10, x11, x12, x13, x14, some (.d (.int v)), some (.d (.int (lotsAt (es ++ (1, h) :: ls) v))), some (.d (.tuple [.int (loL es (tot es) v), .int (hiL es (tot es) v)])), some (.d (.tuple [.int (loL ls 0 v), .int (hiL ls 0 v)])), x19, x20, x21, x22] S [some (.c 0), x1, some (.d (rowD es)), some (.d (rowD ls)), x4, some (.d (.int h)), some (.d (rowD (es ++ (1, h) :: ls))), some (.d (.int (1 + tot es))), some (.d (.int (1 + tot ls))), x9, x10, x11, x12, x13, x14, some (.d (.int v)), some (.d (.int (lotsAt (es ++ (1, h) :: ls) v))), some (.d (.tuple [.int (loL es (tot es) v), .int (hiL es (tot es) v)])), some (.d (.tuple [.int (loL ls 0 v), .int (hiL ls 0 v)])), some (.d (.int ((1 + tot es - loL es (tot es) v) * (hiL ls 0 v + 1) * (if v < h then 1 else 0)))), x20, x21, x22] S := by
    refine .set (ev_2 (p := .int ((1 + tot es - loL es (tot es) v) * (hiL ls 0 v + 1))) (ev_2 (ev_2 rfl (at0 rfl) subD_ii) (ev_2 (at1 rfl) rfl addD_ii) ?_) (ev_A1 (ev_2 rfl rfl gtF_ii) fInt_b) ?_)
    · rw [mulD_ii]
      exact mulI_ok (smallI_lt2 (by omega) (by omega)) (smallI_lt2 (by omega) (by omega))
    · rw [mulD_ii]
      exact mulI_ok (smallI_mul (by omega) (by omega) (by omega) (by omega)) (by split <;> decide +kernel)
  have s4 : Nxs (sSet 14 (eArgs mkLst (asCons (eArgs (callF 2 f_lots_at) (asCons (eV 6) (asCons (eV 15) asNil))) (asCons (eArgs (callF 2 f_how_many_joined) (asCons (eV 6) (asCons (eV 15) asNil))) asNil)))) [some (.c 0), x1, some (.d (rowD es)), some (.d (rowD ls)), x4, some (.d (.int h)), some (.d (rowD (es ++ (1, h) :: ls))), some (.d (.int (1 + tot es))), some (.d (.int (1 + tot ls))), x9, x10, x11, x12, x13, x14, some (.d (.int v)), some (.d (.int (lotsAt (es ++ (1, h) :: ls) v))), some (.d (.tuple [.int (loL es (tot es) v), .int (hiL es (tot es) v)])), some (.d (.tuple [.int (loL ls 0 v), .int (hiL ls 0 v)])), some (.d (.int ((1 + tot es - loL es (tot es) v) * (hiL ls 0 v + 1) * (if v < h then 1 else 0)))), x20, x21, x22] S [some (.c 0), x1, some (.d (rowD es)), some (.d (rowD ls)), x4, some (.d (.int h)), some (.d (rowD (es ++ (1, h) :: ls))), some (.d (.int (1 + tot es))), some (.d (.int (1 + tot ls))), x9, x10, x11, x12, x13, some (.d (.list [.int (lotsAt (es ++ (1, h) :: ls) v), .int (joinedAt (es ++ (1, h) :: ls) v)])), some (.d (.int v)), some (.d (.int (lotsAt (es ++ (1, h) :: ls) v))), some (.d (.tuple [.int (loL es (tot es) v), .int (hiL es (tot es) v)])), some (.d (.tuple [.int (loL ls 0 v), .int (hiL ls 0 v)])), some (.d (.int ((1 + tot es - loL es (tot es) v) * (hiL ls 0 v + 1) * (if v < h then 1 else 0)))), x20, x21, x22] S :=
    .set (ev_l2 (ev_c2 rfl rfl rfl rfl (lots_ok hW v S)) (ev_c2 rfl rfl rfl rfl (joined_ok hW bW S v)))
  have s5 : Nxs (sSet 14 (e2 (lift2 addD) (eV 14) (eArgs mkLst (asCons (eArgs (callF 3 f_lot_at) (asCons (eV 6) (asCons (eV 7) (asCons (eV 15) asNil)))) asNil)))) [some (.c 0), x1, some (.d (rowD es)), some (.d (rowD ls)), x4, some (.d (.int h)), some (.d (rowD (es ++ (1, h) :: ls))), some (.d (.int (1 + tot es))), some (.d (.int (1 + tot ls))), x9, x10, x11, x12, x13, some (.d (.list [.int (lotsAt (es ++ (1, h) :: ls) v), .int (joinedAt (es ++ (1, h) :: ls) v)])), some (.d (.int v)), some (.d (.int (lotsAt (es ++ (1, h) :: ls) v))), some (.d (.tuple [.int (loL es (tot es) v), .int (hiL es (tot es) v)])), some (.d (.tuple [.int (loL ls 0 v), .int (hiL ls 0 v)])), some (.d (.int ((1 + tot es - loL es (tot es) v) * (hiL ls 0 v + 1) * (if v < h then 1 else 0)))), x20, x21, x22] S [some (.c 0), x1, some (.d (rowD es)), some (.d (rowD ls)), x4, some (.d (.int h)), some (.d (rowD (es ++ (1, h) :: ls))), some (.d (.int (1 + tot es))), some (.d (.int (1 + tot ls))), x9, x10, x11, x12, x13, some (.d (.list [.int (lotsAt (es ++ (1, h) :: ls) v), .int (joinedAt (es ++ (1, h) :: ls) v), .tuple [.int (loL (es ++ (1, h) :: ls) (1 + tot es) v), .int (hiL (es ++ (1, h) :: ls) (1 + tot es) v)]])), some (.d (.int v)), some (.d (.int (lotsAt (es ++ (1, h) :: ls) v))), some (.d (.tuple [.int (loL es (tot es) v), .int (hiL es (tot es) v)])), some (.d (.tuple [.int (loL ls 0 v), .int (hiL ls 0 v)])), some (.d (.int ((1 + tot es - loL es (tot es) v) * (hiL ls 0 v + 1) * (if v < h then 1 else 0)))), x20, x21, x22] S :=
    .set (ev_2 rfl (ev_l1 (ev_c3 rfl rfl rfl rfl rfl rfl (lot_ok hW S iW))) (addD_ll (by show 3 ≤ big; decide)))
  have s6 : Nxs (sSet 20 (e2 (lift2 addD) (e2 (lift2 addD) (eArgs (callF 2 f_how_many_joined) (asCons (eV 2) (asCons (eV 15) asNil))) (eArgs (callF 2 f_how_many_joined) (asCons (eV 3) (asCons (eV 15) asNil)))) (eV 19))) [some (.c 0), x1, some (.d (rowD es)), some (.d (rowD ls)), x4, some (.d (.int h)), some (.d (rowD (es ++ (1, h) :: ls))), some (.d (.int (1 + tot es))), some (.d (.int (1 + tot ls))), x9, x10, x11, x12, x13, some (.d (.list [.int (lotsAt (es ++ (1, h) :: ls) v), .int (joinedAt (es ++ (1, h) :: ls) v), .tuple [.int (loL (es ++ (1, h) :: ls) (1 + tot es) v), .int (hiL (es ++ (1, h) :: ls) (1 + tot es) v)]])), some (.d (.int v)), some (.d (.int (lotsAt (es ++ (1, h) :: ls) v))), some (.d (.tuple [.int (loL es (tot es) v), .int (hiL es (tot es) v)])), some (.d (.tuple [.int (loL ls 0 v), .int (hiL ls 0 v)])), some (.d (.int ((1 + tot es - loL es (tot es) v) * (hiL ls 0 v + 1) * (if v < h then 1 else 0)))), x20, x21, x22] S [some (.c 0), x1, some (.d (rowD es)), some (.d (rowD ls)), x4, some (.d (.int h)), some (.d (rowD (es ++ (1, h) :: ls))), some (.d (.int (1 + tot es))), some (.d (.int (1 + tot ls))), x9, x10, x11, x12, x13, some (.d (.list [.int (lotsAt (es ++ (1, h) :: ls) v), .int (joinedAt (es ++ (1, h) :: ls) v), .tuple [.int (loL (es ++ (1, h) :: ls) (1 + tot es) v), .int (hiL (es ++ (1, h) :: ls) (1 + tot es) v)]])), some (.d (.int v)), some (.d (.int (lotsAt (es ++ (1, h) :: ls) v))), some (.d (.tuple [.int (loL es (tot es) v), .int (hiL es (tot es) v)])), some (.d (.tuple [.int (loL ls 0 v), .int (hiL ls 0 v)])), some (.d (.int ((1 + tot es - loL es (tot es) v) * (hiL ls 0 v + 1) * (if v < h then 1 else 0)))), some (.d (.int (joinedAt (es ++ (1, h) :: ls) v))), x21, x22] S :=
    .set (ev_2 (ev_2 (ev_c2 rfl rfl rfl rfl (joined_ok he (by omega) S v)) (ev_c2 rfl rfl rfl rfl (joined_ok hl (by omega) S v)) addD_ii) rfl (by rw [addD_ii, pairs_mid he hl]))
  have s7 : Nxs (sSet 21 (eIf (eTest (e2 (lift2 gtF) (eV 5) (eV 15))) (e2 (lift2 ixLT) (eV 17) (eK (.int 0))) (eV 7))) [some (.c 0), x1, some (.d (rowD es)), some (.d (rowD ls)), x4, some (.d (.int h)), some (.d (rowD (es ++ (1, h) :: ls))), some (.d (.int (1 + tot es))), some (.d (.int (1 + tot ls))), x9, x10, x11, x12, x13, some (.d (.list [.int (lotsAt (es ++ (1, h) :: ls) v), .int (joinedAt (es ++ (1, h) :: ls) v), .tuple [.int (loL (es ++ (1, h) :: ls) (1 + tot es) v), .int (hiL (es ++ (1, h) :: ls) (1 + tot es) v)]])), some (.d (.int v)), some (.d (.int (lotsAt (es ++ (1, h) :: ls) v))), some (.d (.tuple [.int (loL es (tot es) v), .int (hiL es (tot es) v)])), some (.d (.tuple [.int (loL ls 0 v), .int (hiL ls 0 v)])), some (.d (.int ((1 + tot es - loL es (tot es) v) * (hiL ls 0 v + 1) * (if v < h then 1 else 0)))), some (.d (.int (joinedAt (es ++ (1, h) :: ls) v))), x21, x22] S [some (.c 0), x1, some (.d (rowD es)), some (.d (rowD ls)), x4, some (.d (.int h)), some (.d (rowD (es ++ (1, h) :: ls))), some (.d (.int (1 + tot es))), some (.d (.int (1 + tot ls))), x9, x10, x11, x12, x13, some (.d (.list [.int (lotsAt (es ++ (1, h) :: ls) v), .int (joinedAt (es ++ (1, h) :: ls) v), .tuple [.int (loL (es ++ (1, h) :: ls) (1 + tot es) v), .int (hiL (es ++ (1, h) :: ls) (1 + tot es) v)]])), some (.d (.int v)), some (.d (.int (lotsAt (es ++ (1, h) :: ls) v))), some (.d (.tuple [.int (loL es (tot es) v), .int (hiL es (tot es) v)])), some (.d (.tuple [.int (loL ls 0 v), .int (hiL ls 0 v)])), some (.d (.int ((1 + tot es - loL es (tot es) v) * (hiL ls 0 v + 1) * (if v < h then 1 else 0)))), some (.d (.int (joinedAt (es ++ (1, h) :: ls) v))), some (.d (.int (loL (es ++ (1, h) :: ls) (1 + tot es) v))), x22] S := by
    rw [lo_mid he hl v]
    by_cases c : v < h
    · rw [if_pos c]
      exact .set (ev_ifT (ev_test (ev_2 rfl rfl (gtT c))) (at0 rfl))
    · rw [if_neg c]
      exact .set (ev_ifF (ev_test (ev_2 rfl rfl (gtN c))) rfl)
  have m1 : simple 7 (.list [.int (lotsAt (es ++ (1, h) :: ls) v), .int (joinedAt (es ++ (1, h) :: ls) v), .tuple [.int (loL (es ++ (1, h) :: ls) (1 + tot es) v), .int (hiL (es ++ (1, h) :: ls) (1 + tot es) v)]]) = true := rfl
  have s8 : Nxs (sIf (eNotT (eTest (eArgs (callF 2 (f__law_same 8)) (asCons (eV 14) (asCons (eArgs mkLst (asCons (eV 16) (asCons (eV 20) (asCons (eArgs mkTup (asCons (eV 21) (asCons (e2 (lift2 addD) (eV 7) (e2 (lift2 ixLT) (eV 18) (eK (.int 1)))) asNil))) asNil)))) asNil))))) (sRet (eK (.bool false))) sNil) [some (.c 0), x1, some (.d (rowD es)), some (.d (rowD ls)), x4, some (.d (.int h)), some (.d (rowD (es ++ (1, h) :: ls))), some (.d (.int (1 + tot es))), some (.d (.int (1 + tot ls))), x9, x10, x11, x12, x13, some (.d (.list [.int (lotsAt (es ++ (1, h) :: ls) v), .int (joinedAt (es ++ (1, h) :: ls) v), .tuple [.int (loL (es ++ (1, h) :: ls) (1 + tot es) v), .int (hiL (es ++ (1, h) :: ls) (1 + tot es) v)]])), some (.d (.int v)), some (.d (.int (lotsAt (es ++ (1, h) :: ls) v))), some (.d (.tuple [.int (loL es (tot es) v), .int (hiL es (tot es) v)])), some (.d (.tuple [.int (loL ls 0 v), .int (hiL ls 0 v)])), some (.d (.int ((1 + tot es - loL es (tot es) v) * (hiL ls 0 v + 1) * (if v < h then 1 else 0)))), some (.d (.int (joinedAt (es ++ (1, h) :: ls) v))), some (.d (.int (loL (es ++ (1, h) :: ls) (1 + tot es) v))), x22] S [some (.c 0), x1, some (.d (rowD es)), some (.d (rowD ls)), x4, some (.d (.int h)), some (.d (rowD (es ++ (1, h) :: ls))), some (.d (.int (1 + tot es))), some (.d (.int (1 + tot ls))), x9, x10, x11, x12, x13, some (.d (.list [.int (lotsAt (es ++ (1, h) :: ls) v), .int (joinedAt (es ++ (1, h) :: ls) v), .tuple [.int (loL (es ++ (1, h) :: ls) (1 + tot es) v), .int (hiL (es ++ (1, h) :: ls) (1 + tot es) v)]])), some (.d (.int v)), some (.d (.int (lotsAt (es ++ (1, h) :: ls) v))), some (.d (.tuple [.int (loL es (tot es) v), .int (hiL es (tot es) v)])), some (.d (.tuple [.int (loL ls 0 v), .int (hiL ls 0 v)])), some (.d (.int ((1 + tot es - loL es (tot es) v) * (hiL ls 0 v + 1) * (if v < h then 1 else 0)))), some (.d (.int (joinedAt (es ++ (1, h) :: ls) v))), some (.d (.int (loL (es ++ (1, h) :: ls) (1 + tot es) v))), x22] S :=
    .ifF (ev_notY (ev_test (ev_c2 rfl (ev_l3 rfl rfl (ev_t2 rfl (ev_2 rfl (at1 rfl) (by rw [addD_ii, ← hi_mid he hl])))) rfl rfl (same98 S m1)))) .nil
  have s9 : Nxs (sSet 22 (e1 (lift1 rev2F) (eV 6))) [some (.c 0), x1, some (.d (rowD es)), some (.d (rowD ls)), x4, some (.d (.int h)), some (.d (rowD (es ++ (1, h) :: ls))), some (.d (.int (1 + tot es))), some (.d (.int (1 + tot ls))), x9, x10, x11, x12, x13, some (.d (.list [.int (lotsAt (es ++ (1, h) :: ls) v), .int (joinedAt (es ++ (1, h) :: ls) v), .tuple [.int (loL (es ++ (1, h) :: ls) (1 + tot es) v), .int (hiL (es ++ (1, h) :: ls) (1 + tot es) v)]])), some (.d (.int v)), some (.d (.int (lotsAt (es ++ (1, h) :: ls) v))), some (.d (.tuple [.int (loL es (tot es) v), .int (hiL es (tot es) v)])), some (.d (.tuple [.int (loL ls 0 v), .int (hiL ls 0 v)])), some (.d (.int ((1 + tot es - loL es (tot es) v) * (hiL ls 0 v + 1) * (if v < h then 1 else 0)))), some (.d (.int (joinedAt (es ++ (1, h) :: ls) v))), some (.d (.int (loL (es ++ (1, h) :: ls) (1 + tot es) v))), x22] S [some (.c 0), x1, some (.d (rowD es)), some (.d (rowD ls)), x4, some (.d (.int h)), some (.d (rowD (es ++ (1, h) :: ls))), some (.d (.int (1 + tot es))), some (.d (.int (1 + tot ls))), x9, x10, x11, x12, x13, some (.d (.list [.int (lotsAt (es ++ (1, h) :: ls) v), .int (joinedAt (es ++ (1, h) :: ls) v), .tuple [.int (loL (es ++ (1, h) :: ls) (1 + tot es) v), .int (hiL (es ++ (1, h) :: ls) (1 + tot es) v)]])), some (.d (.int v)), some (.d (.int (lotsAt (es ++ (1, h) :: ls) v))), some (.d (.tuple [.int (loL es (tot es) v), .int (hiL es (tot es) v)])), some (.d (.tuple [.int (loL ls 0 v), .int (hiL ls 0 v)])), some (.d (.int ((1 + tot es - loL es (tot es) v) * (hiL ls 0 v + 1) * (if v < h then 1 else 0)))), some (.d (.int (joinedAt (es ++ (1, h) :: ls) v))), some (.d (.int (loL (es ++ (1, h) :: ls) (1 + tot es) v))), some (.d (rowD (es ++ (1, h) :: ls).reverse))] S := by
    refine .set (ev_1 rfl ?_)
    show (if ((es ++ (1, h) :: ls).map runD).length ≤ 1000 then some (PyData.tuple ((es ++ (1, h) :: ls).map runD).reverse) else none) = _
    rw [if_pos (by rw [List.length_map]; have := wlen (h := h) l1 l2; omega), ← List.map_reverse]
    rfl
  have r1 := lots_ok (ok_rev hW) v S
  have r2 := greatest_ok (ok_rev hW) S v
  have r3 := joined_ok (ok_rev hW) (by rw [show tot (es ++ (1, h) :: ls).reverse = tot (es ++ (1, h) :: ls) by unfold tot; rw [List.map_reverse, List.sum_reverse]]; exact bW) S v
  rw [sub_rev] at r1
  rw [greatest_rev] at r2
  rw [joined_rev] at r3
  have s10 : Nxs (sSet 14 (eArgs mkLst (asCons (eArgs (callF 2 f_lots_at) (asCons (eV 22) (asCons (eV 15) asNil))) (asCons (eArgs (callF 2 f_greatest_lot) (asCons (eV 22) (asCons (eV 15) asNil))) (asCons (eArgs (callF 2 f_how_many_joined) (asCons (eV 22) (asCons (eV 15) asNil))) asNil))))) [some (.c 0), x1, some (.d (rowD es)), some (.d (rowD ls)), x4, some (.d (.int h)), some (.d (rowD (es ++ (1, h) :: ls))), some (.d (.int (1 + tot es))), some (.d (.int (1 + tot ls))), x9, x10, x11, x12, x13, some (.d (.list [.int (lotsAt (es ++ (1, h) :: ls) v), .int (joinedAt (es ++ (1, h) :: ls) v), .tuple [.int (loL (es ++ (1, h) :: ls) (1 + tot es) v), .int (hiL (es ++ (1, h) :: ls) (1 + tot es) v)]])), some (.d (.int v)), some (.d (.int (lotsAt (es ++ (1, h) :: ls) v))), some (.d (.tuple [.int (loL es (tot es) v), .int (hiL es (tot es) v)])), some (.d (.tuple [.int (loL ls 0 v), .int (hiL ls 0 v)])), some (.d (.int ((1 + tot es - loL es (tot es) v) * (hiL ls 0 v + 1) * (if v < h then 1 else 0)))), some (.d (.int (joinedAt (es ++ (1, h) :: ls) v))), some (.d (.int (loL (es ++ (1, h) :: ls) (1 + tot es) v))), some (.d (rowD (es ++ (1, h) :: ls).reverse))] S [some (.c 0), x1, some (.d (rowD es)), some (.d (rowD ls)), x4, some (.d (.int h)), some (.d (rowD (es ++ (1, h) :: ls))), some (.d (.int (1 + tot es))), some (.d (.int (1 + tot ls))), x9, x10, x11, x12, x13, some (.d (.list [.int (lotsAt (es ++ (1, h) :: ls) v), .int (greatest (es ++ (1, h) :: ls) v), .int (joinedAt (es ++ (1, h) :: ls) v)])), some (.d (.int v)), some (.d (.int (lotsAt (es ++ (1, h) :: ls) v))), some (.d (.tuple [.int (loL es (tot es) v), .int (hiL es (tot es) v)])), some (.d (.tuple [.int (loL ls 0 v), .int (hiL ls 0 v)])), some (.d (.int ((1 + tot es - loL es (tot es) v) * (hiL ls 0 v + 1) * (if v < h then 1 else 0)))), some (.d (.int (joinedAt (es ++ (1, h) :: ls) v))), some (.d (.int (loL (es ++ (1, h) :: ls) (1 + tot es) v))), some (.d (rowD (es ++ (1, h) :: ls).reverse))] S :=
    .set (ev_l3 (ev_c2 rfl rfl rfl rfl r1) (ev_c2 rfl rfl rfl rfl r2) (ev_c2 rfl rfl rfl rfl r3))
  have m2 : simple 7 (.list [.int (lotsAt (es ++ (1, h) :: ls) v), .int (greatest (es ++ (1, h) :: ls) v), .int (joinedAt (es ++ (1, h) :: ls) v)]) = true := rfl
  have s11 : Nxs (sIf (eNotT (eTest (eArgs (callF 2 (f__law_same 8)) (asCons (eV 14) (asCons (eArgs mkLst (asCons (eV 16) (asCons (eArgs (callF 2 f_greatest_lot) (asCons (eV 6) (asCons (eV 15) asNil))) (asCons (eArgs (callF 2 f_how_many_joined) (asCons (eV 6) (asCons (eV 15) asNil))) asNil)))) asNil))))) (sRet (eK (.bool false))) sNil) [some (.c 0), x1, some (.d (rowD es)), some (.d (rowD ls)), x4, some (.d (.int h)), some (.d (rowD (es ++ (1, h) :: ls))), some (.d (.int (1 + tot es))), some (.d (.int (1 + tot ls))), x9, x10, x11, x12, x13, some (.d (.list [.int (lotsAt (es ++ (1, h) :: ls) v), .int (greatest (es ++ (1, h) :: ls) v), .int (joinedAt (es ++ (1, h) :: ls) v)])), some (.d (.int v)), some (.d (.int (lotsAt (es ++ (1, h) :: ls) v))), some (.d (.tuple [.int (loL es (tot es) v), .int (hiL es (tot es) v)])), some (.d (.tuple [.int (loL ls 0 v), .int (hiL ls 0 v)])), some (.d (.int ((1 + tot es - loL es (tot es) v) * (hiL ls 0 v + 1) * (if v < h then 1 else 0)))), some (.d (.int (joinedAt (es ++ (1, h) :: ls) v))), some (.d (.int (loL (es ++ (1, h) :: ls) (1 + tot es) v))), some (.d (rowD (es ++ (1, h) :: ls).reverse))] S [some (.c 0), x1, some (.d (rowD es)), some (.d (rowD ls)), x4, some (.d (.int h)), some (.d (rowD (es ++ (1, h) :: ls))), some (.d (.int (1 + tot es))), some (.d (.int (1 + tot ls))), x9, x10, x11, x12, x13, some (.d (.list [.int (lotsAt (es ++ (1, h) :: ls) v), .int (greatest (es ++ (1, h) :: ls) v), .int (joinedAt (es ++ (1, h) :: ls) v)])), some (.d (.int v)), some (.d (.int (lotsAt (es ++ (1, h) :: ls) v))), some (.d (.tuple [.int (loL es (tot es) v), .int (hiL es (tot es) v)])), some (.d (.tuple [.int (loL ls 0 v), .int (hiL ls 0 v)])), some (.d (.int ((1 + tot es - loL es (tot es) v) * (hiL ls 0 v + 1) * (if v < h then 1 else 0)))), some (.d (.int (joinedAt (es ++ (1, h) :: ls) v))), some (.d (.int (loL (es ++ (1, h) :: ls) (1 + tot es) v))), some (.d (rowD (es ++ (1, h) :: ls).reverse))] S :=
    .ifF (ev_notY (ev_test (ev_c2 rfl (ev_l3 rfl (ev_c2 rfl rfl rfl rfl (greatest_ok hW S v)) (ev_c2 rfl rfl rfl rfl (joined_ok hW bW S v))) rfl rfl (same98 S m2)))) .nil
  exact ⟨_, _, _, _, _, _, _, _, .seq s1 (.seq s2 (.seq s3 (.seq s4 (.seq s5 (.seq s6 (.seq s7 (.seq s8 (.seq s9 (.seq s10 s11)))))))))⟩
theorem levs_ok {es ls : Row} {h : Int} (he : RowOk es) (hl : RowOk ls) (l1 : es.length ≤ 9) (l2 : ls.length ≤ 9) (hh : 0 ≤ h) (b1 : tot es < 2 ^ 180) (b2 : tot ls < 2 ^ 180) (S : Sto) : ∀ (ks : List Int) (x1 x4 x9 x10 x11 x12 x13 x14 x15 x16 x17 x18 x19 x20 x21 x22 : Option Vl),
    ∃ y14 y15 y16 y17 y18 y19 y20 y21 y22, loopS (.n 15) levB (ks.map PyData.int) [some (.c 0), x1, some (.d (rowD es)), some (.d (rowD ls)), x4, some (.d (.int h)), some (.d (rowD (es ++ (1, h) :: ls))), some (.d (.int (1 + tot es))), some (.d (.int (1 + tot ls))), x9, x10, x11, x12, x13, x14, x15, x16, x17, x18, x19, x20, x21, x22] S = some (.nx, [some (.c 0), x1, some (.d (rowD es)), some (.d (rowD ls)), x4, some (.d (.int h)), some (.d (rowD (es ++ (1, h) :: ls))), some (.d (.int (1 + tot es))), some (.d (.int (1 + tot ls))), x9, x10, x11, x12, x13, y14, y15, y16, y17, y18, y19, y20, y21, y22], S)
  | [], x1, x4, x9, x10, x11, x12, x13, x14, x15, x16, x17, x18, x19, x20, x21, x22 => ⟨_, _, _, _, _, _, _, _, _, rfl⟩
  | k :: ks, x1, x4, x9, x10, x11, x12, x13, x14, x15, x16, x17, x18, x19, x20, x21, x22 => by
    obtain ⟨z14, z16, z17, z18, z19, z20, z21, z22, a⟩ := lev_ok he hl l1 l2 hh b1 b2 S k x1 x4 x9 x10 x11 x12 x13 x14 x16 x17 x18 x19 x20 x21 x22
    obtain ⟨y14, y15, y16, y17, y18, y19, y20, y21, y22, b⟩ := levs_ok he hl l1 l2 hh b1 b2 S ks x1 x4 x9 x10 x11 x12 x13 z14 (some (.d (.int k))) z16 z17 z18 z19 z20 z21 z22
    exact ⟨y14, y15, y16, y17, y18, y19, y20, y21, y22, loop_cons rfl a b⟩
end Sm

set_option maxHeartbeats 1000000
namespace Sm
open PySem PySem.Spec PyProof.Rows L2 Lf

/-! ## one turn -/
theorem Nxs.par3 {ρ : Env} {S S1 S2 S3 : Sto} {i j l : Nat} {e f g : Ex} {d d' d'' : PyData} (h : e ρ S = .ok (.d d) S1) (k : f ρ S1 = .ok (.d d') S2) (m : g ρ S2 = .ok (.d d'') S3) : Nxs (sPar3 i j l e f g) ρ S (((ρ.set i (some (.d d))).set j (some (.d d'))).set l (some (.d d''))) S3 := by
  show sPar3 i j l e f g ρ S = _
  unfold sPar3
  rw [h]
  show sE (f ρ S1) ρ _ = _
  rw [k]
  show sE (g ρ S2) ρ _ = _
  rw [m]
  rfl
def lastD (rs : Row) (x y : Int) : PyData := if x < y then .int (lastH rs x y) else .none
theorem lastD_ok {rs : Row} (h : RowOk rs) (S : Sto) {x y : Int} (x0 : 0 ≤ x) (xy : x ≤ y) (y1 : y < 1 + tot rs) : fg_last_height [.d (rowD rs), .d (.int x), .d (.int y)] S = .ok (.d (lastD rs x y)) S := by
  unfold lastD
  by_cases c : x < y
  · rw [if_pos c]
    have e := last_ok h S (x := x) (y := y) ⟨x0, by omega⟩ ⟨by omega, y1⟩ (by omega)
    rw [if_neg (by omega), if_pos (by omega)] at e
    exact e
  · rw [if_neg c]
    have e : x = y := by omega
    subst e
    exact last_same h S ⟨x0, y1⟩
theorem back_ok {rs : Row} (h : RowOk rs) (S : Sto) {x y : Int} (x0 : 0 ≤ x) (xy : x < y) (y1 : y < 1 + tot rs) : fg_last_height [.d (rowD rs), .d (.int y), .d (.int x)] S = .ok (.d (.int (lastH rs x y))) S := by
  have e := last_ok h S (x := y) (y := x) ⟨by omega, y1⟩ ⟨x0, by omega⟩ (by omega)
  rw [if_pos xy, if_neg (by omega)] at e
  exact e
theorem simple_ints (k : Nat) : ∀ ns : List Int, (ns.map PyData.int).all (simple k) = true
  | [] => rfl
  | n :: ns => by
    rw [List.map_cons, List.all_cons, simple_ints k ns, Bool.and_true]
    cases k <;> rfl
theorem lit98 (ρ : Env) (S : Sto) : (eArgs mkLst (asCons (eK (.int 3)) (asCons (e2 (lift2 powD) (eK (.int 10)) (eK (.int 30))) asNil))) ρ S = .ok (.d (.list ([3, 10 ^ 30].map PyData.int))) S := by kernel_rfl
def eltE : Ex := (eArgs (callF 3 f__law_row) (asCons (eV 0) (asCons (eArgs (callF 2 f__law_of) (asCons (eV 0) (asCons (eArgs mkLst (asCons (eK (.int 3)) (asCons (e2 (lift2 powD) (eK (.int 10)) (eK (.int 30))) asNil))) asNil))) (asCons (eK (.int 5)) asNil))))
theorem elt_ok {n : Nat} {S : Sto} (u : UrnOk (n + 12) S) {ρ : Env} (h0 : ∀ S, eV 0 ρ S = .ok (.c 0) S) : ∃ (rs : Row) (S' : Sto), eltE ρ S = .ok (.d (rowD rs)) S' ∧ UrnOk n S' ∧ RowOk rs ∧ rs.length ≤ 5 ∧ tot rs < 2 ^ 180 := by
  obtain ⟨sz, szm, S1, o1, w1⟩ := of_ok (n := n + 11) (u1 u) (d := .list ([3, 10 ^ 30].map PyData.int)) (.inl rfl) (List.cons_ne_nil _ _) (by decide)
  obtain ⟨size, szq, rfl⟩ := List.mem_map.mp szm
  have hs : 1 ≤ size ∧ size ≤ 10 ^ 38 := by
    simp only [List.mem_cons, List.not_mem_nil, or_false] at szq
    omega
  obtain ⟨rs, S3, o3, w3, q⟩ := row_ok hs.1 hs.2 (top := 5) (by decide) (by decide) (n := n) (u1 w1)
  exact ⟨rs, S3, ev_c3 (h0 _) (ev_c2 (h0 _) (lit98 _ _) rfl rfl o1) rfl rfl rfl rfl o3, w3, q⟩
def turnB : Sx := (sSeq (sAsg (.t [(.n 2), (.n 3)]) (eComp (.n 4) (iArgs rng1 (asCons (eK (.int 2)) asNil)) yesT (eArgs (callF 3 f__law_row) (asCons (eV 0) (asCons (eArgs (callF 2 f__law_of) (asCons (eV 0) (asCons (eArgs mkLst (asCons (eK (.int 3)) (asCons (e2 (lift2 powD) (eK (.int 10)) (eK (.int 30))) asNil))) asNil))) (asCons (eK (.int 5)) asNil)))) [4]))
    (sSeq (sSet 5 (eArgs (callF 2 f__law_take) (asCons (eV 0) (asCons (eK (.int 6)) asNil))))
    (sSeq (sPar3 6 7 8 (e2 (lift2 addD) (e2 (lift2 addD) (eV 2) (eArgs mkTup (asCons (eArgs mkTup (asCons (eK (.int 1)) (asCons (eV 5) asNil))) asNil))) (eV 3)) (eArgs (callF 1 f_islands_in) (asCons (eV 2) asNil)) (eArgs (callF 1 f_islands_in) (asCons (eV 3) asNil)))
    (sSeq (sSet 9 (e1 (lift1 ssF) (e2 (lift2 addD) (e2 (lift2 addD) (eArgs (callF 1 f_waters_of) (asCons (eV 2) asNil)) (eArgs (callF 1 f_waters_of) (asCons (eV 3) asNil))) (eArgs mkTup (asCons (eV 5) asNil)))))
    (sSeq (sIf (eNotT (eTest (eArgs (callF 2 (f__law_same 8)) (asCons (eArgs mkLst (asCons (eArgs (callF 1 f_islands_in) (asCons (eV 6) asNil)) (asCons (eArgs (callF 1 f_waters_of) (asCons (eV 6) asNil)) asNil))) (asCons (eArgs mkLst (asCons (e2 (lift2 addD) (eV 7) (eV 8)) (asCons (eArgs (liftA fTuple) (asCons (eV 9) asNil)) asNil))) asNil))))) (sRet (eK (.bool false))) sNil)
    (sSeq (sPar 10 11 (eArgs (callF 2 f__law_take) (asCons (eV 0) (asCons (eV 7) asNil))) (eArgs (callF 2 f__law_take) (asCons (eV 0) (asCons (eV 8) asNil))))
    (sSeq (sSet 12 (eArgs mkLst (asCons (eArgs (callF 3 f_last_height) (asCons (eV 2) (asCons (eV 10) (asCons (e2 (lift2 subD) (eV 7) (eK (.int 1))) asNil)))) (asCons (eArgs (callF 3 f_last_height) (asCons (eV 3) (asCons (eK (.int 0)) (asCons (eV 11) asNil)))) asNil))))
    (sSeq (sSet 13 (eArgs (liftA fMin) (asCons (e2 (lift2 addD) (eArgs mkLst (asCons (eV 5) asNil)) (eComp (.n 4) (iSq (eV 12)) (eTest (e2 (lift2 isnF) (eV 4) (eK .none))) (eV 4) [4])) asNil)))
    (sSeq (sSet 14 (eArgs mkLst (asCons (eArgs (callF 3 f_last_height) (asCons (eV 6) (asCons (eV 10) (asCons (e2 (lift2 addD) (eV 7) (eV 11)) asNil)))) asNil)))
    (sSeq (sSet 14 (e2 (lift2 addD) (eV 14) (eArgs mkLst (asCons (eArgs (callF 3 f_last_height) (asCons (eV 6) (asCons (e2 (lift2 addD) (eV 7) (eV 11)) (asCons (eV 10) asNil)))) asNil))))
    (sSeq (sIf (eNotT (eTest (eArgs (callF 2 (f__law_same 8)) (asCons (eV 14) (asCons (eArgs mkLst (asCons (eV 13) (asCons (eV 13) asNil))) asNil))))) (sRet (eK (.bool false))) sNil)
    (sSeq (sIf (eNotT (eTest (eArgs (callF 2 (f__law_same 8)) (asCons (eArgs (callF 3 f_last_height) (asCons (eV 6) (asCons (eV 10) (asCons (e2 (lift2 subD) (eV 7) (eK (.int 1))) asNil)))) (asCons (e2 (lift2 ixLT) (eV 12) (eK (.int 0))) asNil))))) (sRet (eK (.bool false))) sNil)
    (sFor (.n 15) (iArgs rng1 (asCons (eK (.int 6)) asNil)) levB)))))))))))))
theorem turn_ok {n : Nat} {S : Sto} (u : UrnOk (n + 27) S) (x1 x2 x3 x4 x5 x6 x7 x8 x9 x10 x11 x12 x13 x14 x15 x16 x17 x18 x19 x20 x21 x22 : Option Vl) :
    ∃ y2 y3 y4 y5 y6 y7 y8 y9 y10 y11 y12 y13 y14 y15 y16 y17 y18 y19 y20 y21 y22 S', Nxs turnB [some (.c 0), x1, x2, x3, x4, x5, x6, x7, x8, x9, x10, x11, x12, x13, x14, x15, x16, x17, x18, x19, x20, x21, x22] S [some (.c 0), x1, y2, y3, y4, y5, y6, y7, y8, y9, y10, y11, y12, y13, y14, y15, y16, y17, y18, y19, y20, y21, y22] S' ∧ UrnOk n S' := by
  obtain ⟨es, S1, a1, w1, he, l1, b1⟩ := elt_ok (n := n + 15) (u1 u) (ρ := [some (.c 0), x1, x2, x3, some (.d (.int 0)), x5, x6, x7, x8, x9, x10, x11, x12, x13, x14, x15, x16, x17, x18, x19, x20, x21, x22]) fun _ => rfl
  obtain ⟨ls, S2, a2, w2, hl, l2, b2⟩ := elt_ok (n := n + 3) (u1 w1) (ρ := [some (.c 0), x1, x2, x3, some (.d (.int 1)), x5, x6, x7, x8, x9, x10, x11, x12, x13, x14, x15, x16, x17, x18, x19, x20, x21, x22]) fun _ => rfl
  have c1 : (eComp (.n 4) (iArgs rng1 (asCons (eK (.int 2)) asNil)) yesT (eArgs (callF 3 f__law_row) (asCons (eV 0) (asCons (eArgs (callF 2 f__law_of) (asCons (eV 0) (asCons (eArgs mkLst (asCons (eK (.int 3)) (asCons (e2 (lift2 powD) (eK (.int 10)) (eK (.int 30))) asNil))) asNil))) (asCons (eK (.int 5)) asNil)))) [4]) [some (.c 0), x1, x2, x3, x4, x5, x6, x7, x8, x9, x10, x11, x12, x13, x14, x15, x16, x17, x18, x19, x20, x21, x22] S = .ok (.d (.list [rowD es, rowD ls])) S2 := by
    have k1 : (eArgs (callF 3 f__law_row) (asCons (eV 0) (asCons (eArgs (callF 2 f__law_of) (asCons (eV 0) (asCons (eArgs mkLst (asCons (eK (.int 3)) (asCons (e2 (lift2 powD) (eK (.int 10)) (eK (.int 30))) asNil))) asNil))) (asCons (eK (.int 5)) asNil)))) [some (.c 0), x1, x2, x3, some (.d (.int 0)), x5, x6, x7, x8, x9, x10, x11, x12, x13, x14, x15, x16, x17, x18, x19, x20, x21, x22] S = .ok (.d (rowD es)) S1 := a1
    have k2 : (eArgs (callF 3 f__law_row) (asCons (eV 0) (asCons (eArgs (callF 2 f__law_of) (asCons (eV 0) (asCons (eArgs mkLst (asCons (eK (.int 3)) (asCons (e2 (lift2 powD) (eK (.int 10)) (eK (.int 30))) asNil))) asNil))) (asCons (eK (.int 5)) asNil)))) [some (.c 0), x1, x2, x3, some (.d (.int 1)), x5, x6, x7, x8, x9, x10, x11, x12, x13, x14, x15, x16, x17, x18, x19, x20, x21, x22] S1 = .ok (.d (rowD ls)) S2 := a2
    show lim (cL (.n 4) yesT (eArgs (callF 3 f__law_row) (asCons (eV 0) (asCons (eArgs (callF 2 f__law_of) (asCons (eV 0) (asCons (eArgs mkLst (asCons (eK (.int 3)) (asCons (e2 (lift2 powD) (eK (.int 10)) (eK (.int 30))) asNil))) asNil))) (asCons (eK (.int 5)) asNil)))) [4] [some (.c 0), x1, x2, x3, x4, x5, x6, x7, x8, x9, x10, x11, x12, x13, x14, x15, x16, x17, x18, x19, x20, x21, x22] [.int 0, .int 1] S) = _
    unfold cL
    show lim (match (eArgs (callF 3 f__law_row) (asCons (eV 0) (asCons (eArgs (callF 2 f__law_of) (asCons (eV 0) (asCons (eArgs mkLst (asCons (eK (.int 3)) (asCons (e2 (lift2 powD) (eK (.int 10)) (eK (.int 30))) asNil))) asNil))) (asCons (eK (.int 5)) asNil)))) [some (.c 0), x1, x2, x3, some (.d (.int 0)), x5, x6, x7, x8, x9, x10, x11, x12, x13, x14, x15, x16, x17, x18, x19, x20, x21, x22] S with
      | .ok (.d y) S2 => consD (cL (.n 4) yesT (eArgs (callF 3 f__law_row) (asCons (eV 0) (asCons (eArgs (callF 2 f__law_of) (asCons (eV 0) (asCons (eArgs mkLst (asCons (eK (.int 3)) (asCons (e2 (lift2 powD) (eK (.int 10)) (eK (.int 30))) asNil))) asNil))) (asCons (eK (.int 5)) asNil)))) [4] [some (.c 0), x1, x2, x3, x4, x5, x6, x7, x8, x9, x10, x11, x12, x13, x14, x15, x16, x17, x18, x19, x20, x21, x22] [.int 1] S2) y
      | _ => .no) = _
    rw [k1]
    dsimp only
    unfold cL
    show lim (consD (match (eArgs (callF 3 f__law_row) (asCons (eV 0) (asCons (eArgs (callF 2 f__law_of) (asCons (eV 0) (asCons (eArgs mkLst (asCons (eK (.int 3)) (asCons (e2 (lift2 powD) (eK (.int 10)) (eK (.int 30))) asNil))) asNil))) (asCons (eK (.int 5)) asNil)))) [some (.c 0), x1, x2, x3, some (.d (.int 1)), x5, x6, x7, x8, x9, x10, x11, x12, x13, x14, x15, x16, x17, x18, x19, x20, x21, x22] S1 with
      | .ok (.d y) S2 => consD (cL (.n 4) yesT (eArgs (callF 3 f__law_row) (asCons (eV 0) (asCons (eArgs (callF 2 f__law_of) (asCons (eV 0) (asCons (eArgs mkLst (asCons (eK (.int 3)) (asCons (e2 (lift2 powD) (eK (.int 10)) (eK (.int 30))) asNil))) asNil))) (asCons (eK (.int 5)) asNil)))) [4] [some (.c 0), x1, x2, x3, x4, x5, x6, x7, x8, x9, x10, x11, x12, x13, x14, x15, x16, x17, x18, x19, x20, x21, x22] [] S2) y
      | _ => .no) (rowD es)) = _
    rw [k2]
    rfl
  have s1 : Nxs (sAsg (.t [(.n 2), (.n 3)]) (eComp (.n 4) (iArgs rng1 (asCons (eK (.int 2)) asNil)) yesT (eArgs (callF 3 f__law_row) (asCons (eV 0) (asCons (eArgs (callF 2 f__law_of) (asCons (eV 0) (asCons (eArgs mkLst (asCons (eK (.int 3)) (asCons (e2 (lift2 powD) (eK (.int 10)) (eK (.int 30))) asNil))) asNil))) (asCons (eK (.int 5)) asNil)))) [4])) [some (.c 0), x1, x2, x3, x4, x5, x6, x7, x8, x9, x10, x11, x12, x13, x14, x15, x16, x17, x18, x19, x20, x21, x22] S [some (.c 0), x1, some (.d (rowD es)), some (.d (rowD ls)), x4, x5, x6, x7, x8, x9, x10, x11, x12, x13, x14, x15, x16, x17, x18, x19, x20, x21, x22] S2 := .asgn c1 rfl
  obtain ⟨h, S3, t3, hh, h5, w3⟩ := take_ok (n := n + 2) w2 (low := 6) (by decide) (by decide +kernel)
  have s2 : Nxs (sSet 5 (eArgs (callF 2 f__law_take) (asCons (eV 0) (asCons (eK (.int 6)) asNil)))) [some (.c 0), x1, some (.d (rowD es)), some (.d (rowD ls)), x4, x5, x6, x7, x8, x9, x10, x11, x12, x13, x14, x15, x16, x17, x18, x19, x20, x21, x22] S2 [some (.c 0), x1, some (.d (rowD es)), some (.d (rowD ls)), x4, some (.d (.int h)), x6, x7, x8, x9, x10, x11, x12, x13, x14, x15, x16, x17, x18, x19, x20, x21, x22] S3 := .set (ev_c2 rfl rfl rfl rfl t3)
  have hW := ok_mid he hl (by omega) (by omega) hh
  have tm := tot_mid es ls h
  have te := tot_nonneg he.pos
  have tl := tot_nonneg hl.pos
  have big20 : ∀ m : Nat, m ≤ 1000 → m ≤ big := fun m hm => Nat.le_trans hm (by decide)
  have cW : Sm.e2 (lift2 addD) (Sm.e2 (lift2 addD) (eV 2) (eArgs mkTup (asCons (eArgs mkTup (asCons (eK (.int 1)) (asCons (eV 5) asNil))) asNil))) (eV 3) [some (.c 0), x1, some (.d (rowD es)), some (.d (rowD ls)), x4, some (.d (.int h)), x6, x7, x8, x9, x10, x11, x12, x13, x14, x15, x16, x17, x18, x19, x20, x21, x22] S3 = .ok (.d (rowD (es ++ (1, h) :: ls))) S3 := by
    refine ev_2 (p := .tuple (es.map runD ++ [runD (1, h)])) (ev_2 rfl (ev_t1 (ev_t2 rfl rfl)) (addD_tt (big20 _ ?_))) rfl ?_
    · rw [List.length_map, List.length_singleton]; omega
    · have e : rowD (es ++ (1, h) :: ls) = .tuple ((es.map runD ++ [runD (1, h)]) ++ ls.map runD) := by
        unfold rowD
        rw [List.map_append, List.map_cons, List.append_assoc]
        rfl
      rw [e]
      refine addD_tt (big20 _ ?_)
      rw [List.length_append, List.length_map, List.length_singleton, List.length_map]
      omega
  have s3 : Nxs (sPar3 6 7 8 (e2 (lift2 addD) (e2 (lift2 addD) (eV 2) (eArgs mkTup (asCons (eArgs mkTup (asCons (eK (.int 1)) (asCons (eV 5) asNil))) asNil))) (eV 3)) (eArgs (callF 1 f_islands_in) (asCons (eV 2) asNil)) (eArgs (callF 1 f_islands_in) (asCons (eV 3) asNil))) [some (.c 0), x1, some (.d (rowD es)), some (.d (rowD ls)), x4, some (.d (.int h)), x6, x7, x8, x9, x10, x11, x12, x13, x14, x15, x16, x17, x18, x19, x20, x21, x22] S3 [some (.c 0), x1, some (.d (rowD es)), some (.d (rowD ls)), x4, some (.d (.int h)), some (.d (rowD (es ++ (1, h) :: ls))), some (.d (.int (1 + tot es))), some (.d (.int (1 + tot ls))), x9, x10, x11, x12, x13, x14, x15, x16, x17, x18, x19, x20, x21, x22] S3 := .par3 cW (ev_c1 rfl rfl (islands_ok he S3)) (ev_c1 rfl rfl (islands_ok hl S3))
  have q1 : (ascI (hts es)).length ≤ 5 := Nat.le_trans (ascI_len _) (by unfold hts; rw [List.length_map]; exact l1)
  have q2 : (ascI (hts ls)).length ≤ 5 := Nat.le_trans (ascI_len _) (by unfold hts; rw [List.length_map]; exact l2)
  have q3 : (ascI (hts (es ++ (1, h) :: ls))).length ≤ 19 := Nat.le_trans (ascI_len _) (by unfold hts; rw [List.length_map]; exact wlen (by omega) (by omega))
  have s4 : Nxs (sSet 9 (e1 (lift1 ssF) (e2 (lift2 addD) (e2 (lift2 addD) (eArgs (callF 1 f_waters_of) (asCons (eV 2) asNil)) (eArgs (callF 1 f_waters_of) (asCons (eV 3) asNil))) (eArgs mkTup (asCons (eV 5) asNil))))) [some (.c 0), x1, some (.d (rowD es)), some (.d (rowD ls)), x4, some (.d (.int h)), some (.d (rowD (es ++ (1, h) :: ls))), some (.d (.int (1 + tot es))), some (.d (.int (1 + tot ls))), x9, x10, x11, x12, x13, x14, x15, x16, x17, x18, x19, x20, x21, x22] S3 [some (.c 0), x1, some (.d (rowD es)), some (.d (rowD ls)), x4, some (.d (.int h)), some (.d (rowD (es ++ (1, h) :: ls))), some (.d (.int (1 + tot es))), some (.d (.int (1 + tot ls))), some (.d (.list ((ascI (hts (es ++ (1, h) :: ls))).map PyData.int))), x10, x11, x12, x13, x14, x15, x16, x17, x18, x19, x20, x21, x22] S3 := by
    refine .set (ev_1 (ev_2 (p := .tuple ((ascI (hts es) ++ ascI (hts ls)).map PyData.int)) (ev_2 (ev_c1 rfl rfl (waters_ok he S3)) (ev_c1 rfl rfl (waters_ok hl S3)) ?_) (ev_t1 rfl) (r := .tuple ((ascI (hts es) ++ ascI (hts ls) ++ [h]).map PyData.int)) ?_) ?_)
    · rw [List.map_append]
      refine addD_tt (big20 _ ?_)
      rw [List.length_map, List.length_map]; omega
    · rw [List.map_append (l₂ := [h])]
      refine addD_tt (big20 _ ?_)
      rw [List.length_map, List.length_append, List.length_singleton]; omega
    · rw [← waters_mid es ls h]
      have hq : (ascI (hts es) ++ ascI (hts ls) ++ [h]).length < 64 := by
        rw [List.length_append, List.length_append, List.length_singleton]; omega
      generalize ascI (hts es) ++ ascI (hts ls) ++ [h] = ns at hq
      show (match ssL (ns.map PyData.int) with | some es => some (PyData.list es) | none => none) = _
      unfold ssL
      rw [if_pos (by rw [List.length_map]; exact hq), asInts_map]
  have m1 : simple 7 (.list [.int (1 + tot (es ++ (1, h) :: ls)), .tuple ((ascI (hts (es ++ (1, h) :: ls))).map PyData.int)]) = true := by
    have z := simple_ints 5 (ascI (hts (es ++ (1, h) :: ls)))
    have z2 : ((ascI (hts (es ++ (1, h) :: ls))).map PyData.int).length ≤ 1000 := by rw [List.length_map]; omega
    show (decide (2 ≤ 1000) && (simple 6 (.int _) && (simple 6 (.tuple ((ascI (hts (es ++ (1, h) :: ls))).map PyData.int)) && true))) = true
    have z3 : simple 6 (.tuple ((ascI (hts (es ++ (1, h) :: ls))).map PyData.int)) = true := by
      show (decide (((ascI (hts (es ++ (1, h) :: ls))).map PyData.int).length ≤ 1000) && ((ascI (hts (es ++ (1, h) :: ls))).map PyData.int).all (simple 5)) = true
      rw [z, decide_eq_true z2]
      rfl
    rw [z3]
    rfl
  have s5 : Nxs (sIf (eNotT (eTest (eArgs (callF 2 (f__law_same 8)) (asCons (eArgs mkLst (asCons (eArgs (callF 1 f_islands_in) (asCons (eV 6) asNil)) (asCons (eArgs (callF 1 f_waters_of) (asCons (eV 6) asNil)) asNil))) (asCons (eArgs mkLst (asCons (e2 (lift2 addD) (eV 7) (eV 8)) (asCons (eArgs (liftA fTuple) (asCons (eV 9) asNil)) asNil))) asNil))))) (sRet (eK (.bool false))) sNil) [some (.c 0), x1, some (.d (rowD es)), some (.d (rowD ls)), x4, some (.d (.int h)), some (.d (rowD (es ++ (1, h) :: ls))), some (.d (.int (1 + tot es))), some (.d (.int (1 + tot ls))), some (.d (.list ((ascI (hts (es ++ (1, h) :: ls))).map PyData.int))), x10, x11, x12, x13, x14, x15, x16, x17, x18, x19, x20, x21, x22] S3 [some (.c 0), x1, some (.d (rowD es)), some (.d (rowD ls)), x4, some (.d (.int h)), some (.d (rowD (es ++ (1, h) :: ls))), some (.d (.int (1 + tot es))), some (.d (.int (1 + tot ls))), some (.d (.list ((ascI (hts (es ++ (1, h) :: ls))).map PyData.int))), x10, x11, x12, x13, x14, x15, x16, x17, x18, x19, x20, x21, x22] S3 :=
    .ifF (ev_notY (ev_test (ev_c2 (ev_l2 (ev_c1 rfl rfl (islands_ok hW S3)) (ev_c1 rfl rfl (waters_ok hW S3))) (ev_l2 (ev_2 rfl rfl (by rw [addD_ii, show 1 + tot es + (1 + tot ls) = 1 + tot (es ++ (1, h) :: ls) by omega])) (ev_A1 rfl rfl)) rfl rfl (same98 S3 m1)))) .nil
  obtain ⟨x, S4, t4, x0, xl, w4⟩ := take_ok (n := n + 1) w3 (low := 1 + tot es) (by omega) (smallI_lt2 (by omega) (by omega))
  obtain ⟨y, S5, t5, y0, yl, w5⟩ := take_ok (n := n) w4 (low := 1 + tot ls) (by omega) (smallI_lt2 (by omega) (by omega))
  have s6 : Nxs (sPar 10 11 (eArgs (callF 2 f__law_take) (asCons (eV 0) (asCons (eV 7) asNil))) (eArgs (callF 2 f__law_take) (asCons (eV 0) (asCons (eV 8) asNil)))) [some (.c 0), x1, some (.d (rowD es)), some (.d (rowD ls)), x4, some (.d (.int h)), some (.d (rowD (es ++ (1, h) :: ls))), some (.d (.int (1 + tot es))), some (.d (.int (1 + tot ls))), some (.d (.list ((ascI (hts (es ++ (1, h) :: ls))).map PyData.int))), x10, x11, x12, x13, x14, x15, x16, x17, x18, x19, x20, x21, x22] S3 [some (.c 0), x1, some (.d (rowD es)), some (.d (rowD ls)), x4, some (.d (.int h)), some (.d (rowD (es ++ (1, h) :: ls))), some (.d (.int (1 + tot es))), some (.d (.int (1 + tot ls))), some (.d (.list ((ascI (hts (es ++ (1, h) :: ls))).map PyData.int))), some (.d (.int x)), some (.d (.int y)), x12, x13, x14, x15, x16, x17, x18, x19, x20, x21, x22] S5 := .par (ev_c2 rfl rfl rfl rfl t4) (ev_c2 rfl rfl rfl rfl t5)
  have sb : subD (.int (1 + tot es)) (.int 1) = some (.int (tot es)) := by rw [subD_ii, show 1 + tot es - 1 = tot es by omega]
  have d1 := lastD_ok he S5 (x := x) (y := tot es) x0 (by omega) (by omega)
  have d2 := lastD_ok hl S5 (x := 0) (y := y) (Int.le_refl _) y0 yl
  have s7 : Nxs (sSet 12 (eArgs mkLst (asCons (eArgs (callF 3 f_last_height) (asCons (eV 2) (asCons (eV 10) (asCons (e2 (lift2 subD) (eV 7) (eK (.int 1))) asNil)))) (asCons (eArgs (callF 3 f_last_height) (asCons (eV 3) (asCons (eK (.int 0)) (asCons (eV 11) asNil)))) asNil)))) [some (.c 0), x1, some (.d (rowD es)), some (.d (rowD ls)), x4, some (.d (.int h)), some (.d (rowD (es ++ (1, h) :: ls))), some (.d (.int (1 + tot es))), some (.d (.int (1 + tot ls))), some (.d (.list ((ascI (hts (es ++ (1, h) :: ls))).map PyData.int))), some (.d (.int x)), some (.d (.int y)), x12, x13, x14, x15, x16, x17, x18, x19, x20, x21, x22] S5 [some (.c 0), x1, some (.d (rowD es)), some (.d (rowD ls)), x4, some (.d (.int h)), some (.d (rowD (es ++ (1, h) :: ls))), some (.d (.int (1 + tot es))), some (.d (.int (1 + tot ls))), some (.d (.list ((ascI (hts (es ++ (1, h) :: ls))).map PyData.int))), some (.d (.int x)), some (.d (.int y)), some (.d (.list [lastD es x (tot es), lastD ls 0 y])), x13, x14, x15, x16, x17, x18, x19, x20, x21, x22] S5 := .set (ev_l2 (ev_c3 rfl rfl (ev_2 rfl rfl sb) rfl rfl rfl d1) (ev_c3 rfl rfl rfl rfl rfl rfl d2))
  have c13 := eComp_of (pt := .n 4) (fi := iSq (eV 12)) (tt := (eTest (e2 (lift2 isnF) (eV 4) (eK .none)))) (elt := eV 4) (vs := [4]) (ρ := [some (.c 0), x1, some (.d (rowD es)), some (.d (rowD ls)), x4, some (.d (.int h)), some (.d (rowD (es ++ (1, h) :: ls))), some (.d (.int (1 + tot es))), some (.d (.int (1 + tot ls))), some (.d (.list ((ascI (hts (es ++ (1, h) :: ls))).map PyData.int))), some (.d (.int x)), some (.d (.int y)), some (.d (.list [lastD es x (tot es), lastD ls 0 y])), x13, x14, x15, x16, x17, x18, x19, x20, x21, x22]) (S := S5) (fun d => d) (fun d => !isNone d) (fun d => d) [lastD es x (tot es), lastD ls 0 y] (by rw [List.map_id']; rfl) (show 2 ≤ big by decide) (fun d _ => ⟨_, rfl, ev_test (ev_2 rfl rfl rfl), fun _ => rfl⟩)
  have f13 : ([lastD es x (tot es), lastD ls 0 y].filter fun d => !isNone d).map (fun d => d) = (sides es ls x y).map PyData.int := by
    rw [List.map_id']
    unfold lastD sides
    by_cases c : x < tot es <;> by_cases d : 0 < y <;> simp [c, d, isNone]
  rw [f13] at c13
  have sl : (sides es ls x y).length ≤ 2 := by
    unfold sides
    rw [List.length_append]
    split <;> split <;> simp
  have s8 : Nxs (sSet 13 (eArgs (liftA fMin) (asCons (e2 (lift2 addD) (eArgs mkLst (asCons (eV 5) asNil)) (eComp (.n 4) (iSq (eV 12)) (eTest (e2 (lift2 isnF) (eV 4) (eK .none))) (eV 4) [4])) asNil))) [some (.c 0), x1, some (.d (rowD es)), some (.d (rowD ls)), x4, some (.d (.int h)), some (.d (rowD (es ++ (1, h) :: ls))), some (.d (.int (1 + tot es))), some (.d (.int (1 + tot ls))), some (.d (.list ((ascI (hts (es ++ (1, h) :: ls))).map PyData.int))), some (.d (.int x)), some (.d (.int y)), some (.d (.list [lastD es x (tot es), lastD ls 0 y])), x13, x14, x15, x16, x17, x18, x19, x20, x21, x22] S5 [some (.c 0), x1, some (.d (rowD es)), some (.d (rowD ls)), x4, some (.d (.int h)), some (.d (rowD (es ++ (1, h) :: ls))), some (.d (.int (1 + tot es))), some (.d (.int (1 + tot ls))), some (.d (.list ((ascI (hts (es ++ (1, h) :: ls))).map PyData.int))), some (.d (.int x)), some (.d (.int y)), some (.d (.list [lastD es x (tot es), lastD ls 0 y])), some (.d (.int (minI (sides es ls x y) h))), x14, x15, x16, x17, x18, x19, x20, x21, x22] S5 :=
    .set (ev_A1 (ev_2 (ev_l1 rfl) c13 (addD_ll (big20 _ (by rw [List.length_singleton, List.length_map]; omega)))) (fMin_ok h (sides es ls x y)))
  have lm := last_mid (h := h) he hl hW x0 xl y0 yl
  have g1 := lastD_ok hW S5 (x := x) (y := 1 + tot es + y) x0 (by omega) (by omega)
  unfold lastD at g1
  rw [if_pos (by omega), lm] at g1
  have g2 := back_ok hW S5 (x := x) (y := 1 + tot es + y) x0 (by omega) (by omega)
  rw [lm] at g2
  have s9 : Nxs (sSet 14 (eArgs mkLst (asCons (eArgs (callF 3 f_last_height) (asCons (eV 6) (asCons (eV 10) (asCons (e2 (lift2 addD) (eV 7) (eV 11)) asNil)))) asNil))) [some (.c 0), x1, some (.d (rowD es)), some (.d (rowD ls)), x4, some (.d (.int h)), some (.d (rowD (es ++ (1, h) :: ls))), some (.d (.int (1 + tot es))), some (.d (.int (1 + tot ls))), some (.d (.list ((ascI (hts (es ++ (1, h) :: ls))).map PyData.int))), some (.d (.int x)), some (.d (.int y)), some (.d (.list [lastD es x (tot es), lastD ls 0 y])), some (.d (.int (minI (sides es ls x y) h))), x14, x15, x16, x17, x18, x19, x20, x21, x22] S5 [some (.c 0), x1, some (.d (rowD es)), some (.d (rowD ls)), x4, some (.d (.int h)), some (.d (rowD (es ++ (1, h) :: ls))), some (.d (.int (1 + tot es))), some (.d (.int (1 + tot ls))), some (.d (.list ((ascI (hts (es ++ (1, h) :: ls))).map PyData.int))), some (.d (.int x)), some (.d (.int y)), some (.d (.list [lastD es x (tot es), lastD ls 0 y])), some (.d (.int (minI (sides es ls x y) h))), some (.d (.list [.int (minI (sides es ls x y) h)])), x15, x16, x17, x18, x19, x20, x21, x22] S5 := .set (ev_l1 (ev_c3 rfl rfl (ev_2 rfl rfl addD_ii) rfl rfl rfl g1))
  have s10 : Nxs (sSet 14 (e2 (lift2 addD) (eV 14) (eArgs mkLst (asCons (eArgs (callF 3 f_last_height) (asCons (eV 6) (asCons (e2 (lift2 addD) (eV 7) (eV 11)) (asCons (eV 10) asNil)))) asNil)))) [some (.c 0), x1, some (.d (rowD es)), some (.d (rowD ls)), x4, some (.d (.int h)), some (.d (rowD (es ++ (1, h) :: ls))), some (.d (.int (1 + tot es))), some (.d (.int (1 + tot ls))), some (.d (.list ((ascI (hts (es ++ (1, h) :: ls))).map PyData.int))), some (.d (.int x)), some (.d (.int y)), some (.d (.list [lastD es x (tot es), lastD ls 0 y])), some (.d (.int (minI (sides es ls x y) h))), some (.d (.list [.int (minI (sides es ls x y) h)])), x15, x16, x17, x18, x19, x20, x21, x22] S5 [some (.c 0), x1, some (.d (rowD es)), some (.d (rowD ls)), x4, some (.d (.int h)), some (.d (rowD (es ++ (1, h) :: ls))), some (.d (.int (1 + tot es))), some (.d (.int (1 + tot ls))), some (.d (.list ((ascI (hts (es ++ (1, h) :: ls))).map PyData.int))), some (.d (.int x)), some (.d (.int y)), some (.d (.list [lastD es x (tot es), lastD ls 0 y])), some (.d (.int (minI (sides es ls x y) h))), some (.d (.list [.int (minI (sides es ls x y) h), .int (minI (sides es ls x y) h)])), x15, x16, x17, x18, x19, x20, x21, x22] S5 := .set (ev_2 rfl (ev_l1 (ev_c3 rfl (ev_2 rfl rfl addD_ii) rfl rfl rfl rfl g2)) (addD_ll (by show 2 ≤ big; decide)))
  have m2 : simple 7 (.list [.int (minI (sides es ls x y) h), .int (minI (sides es ls x y) h)]) = true := rfl
  have s11 : Nxs (sIf (eNotT (eTest (eArgs (callF 2 (f__law_same 8)) (asCons (eV 14) (asCons (eArgs mkLst (asCons (eV 13) (asCons (eV 13) asNil))) asNil))))) (sRet (eK (.bool false))) sNil) [some (.c 0), x1, some (.d (rowD es)), some (.d (rowD ls)), x4, some (.d (.int h)), some (.d (rowD (es ++ (1, h) :: ls))), some (.d (.int (1 + tot es))), some (.d (.int (1 + tot ls))), some (.d (.list ((ascI (hts (es ++ (1, h) :: ls))).map PyData.int))), some (.d (.int x)), some (.d (.int y)), some (.d (.list [lastD es x (tot es), lastD ls 0 y])), some (.d (.int (minI (sides es ls x y) h))), some (.d (.list [.int (minI (sides es ls x y) h), .int (minI (sides es ls x y) h)])), x15, x16, x17, x18, x19, x20, x21, x22] S5 [some (.c 0), x1, some (.d (rowD es)), some (.d (rowD ls)), x4, some (.d (.int h)), some (.d (rowD (es ++ (1, h) :: ls))), some (.d (.int (1 + tot es))), some (.d (.int (1 + tot ls))), some (.d (.list ((ascI (hts (es ++ (1, h) :: ls))).map PyData.int))), some (.d (.int x)), some (.d (.int y)), some (.d (.list [lastD es x (tot es), lastD ls 0 y])), some (.d (.int (minI (sides es ls x y) h))), some (.d (.list [.int (minI (sides es ls x y) h), .int (minI (sides es ls x y) h)])), x15, x16, x17, x18, x19, x20, x21, x22] S5 := .ifF (ev_notY (ev_test (ev_c2 rfl (ev_l2 rfl rfl) rfl rfl (same98 S5 m2)))) .nil
  have g3 := lastD_ok hW S5 (x := x) (y := tot es) x0 (by omega) (by omega)
  have g4 : lastD (es ++ (1, h) :: ls) x (tot es) = lastD es x (tot es) := by
    unfold lastD
    by_cases c : x < tot es
    · rw [if_pos c, if_pos c, last_left he hW x0 c]
    · rw [if_neg c, if_neg c]
  rw [g4] at g3
  have m3 : simple 7 (lastD es x (tot es)) = true := by
    unfold lastD
    split <;> rfl
  have s12 : Nxs (sIf (eNotT (eTest (eArgs (callF 2 (f__law_same 8)) (asCons (eArgs (callF 3 f_last_height) (asCons (eV 6) (asCons (eV 10) (asCons (e2 (lift2 subD) (eV 7) (eK (.int 1))) asNil)))) (asCons (e2 (lift2 ixLT) (eV 12) (eK (.int 0))) asNil))))) (sRet (eK (.bool false))) sNil) [some (.c 0), x1, some (.d (rowD es)), some (.d (rowD ls)), x4, some (.d (.int h)), some (.d (rowD (es ++ (1, h) :: ls))), some (.d (.int (1 + tot es))), some (.d (.int (1 + tot ls))), some (.d (.list ((ascI (hts (es ++ (1, h) :: ls))).map PyData.int))), some (.d (.int x)), some (.d (.int y)), some (.d (.list [lastD es x (tot es), lastD ls 0 y])), some (.d (.int (minI (sides es ls x y) h))), some (.d (.list [.int (minI (sides es ls x y) h), .int (minI (sides es ls x y) h)])), x15, x16, x17, x18, x19, x20, x21, x22] S5 [some (.c 0), x1, some (.d (rowD es)), some (.d (rowD ls)), x4, some (.d (.int h)), some (.d (rowD (es ++ (1, h) :: ls))), some (.d (.int (1 + tot es))), some (.d (.int (1 + tot ls))), some (.d (.list ((ascI (hts (es ++ (1, h) :: ls))).map PyData.int))), some (.d (.int x)), some (.d (.int y)), some (.d (.list [lastD es x (tot es), lastD ls 0 y])), some (.d (.int (minI (sides es ls x y) h))), some (.d (.list [.int (minI (sides es ls x y) h), .int (minI (sides es ls x y) h)])), x15, x16, x17, x18, x19, x20, x21, x22] S5 := .ifF (ev_notY (ev_test (ev_c2 (ev_c3 rfl rfl (ev_2 rfl rfl sb) rfl rfl rfl g3) (ev_2 rfl rfl rfl) rfl rfl (same98 S5 m3)))) .nil
  obtain ⟨y14, y15, y16, y17, y18, y19, y20, y21, y22, lv⟩ := levs_ok he hl (by omega) (by omega) hh b1 b2 S5 [0, 1, 2, 3, 4, 5] x1 x4 (some (.d (.list ((ascI (hts (es ++ (1, h) :: ls))).map PyData.int)))) (some (.d (.int x))) (some (.d (.int y))) (some (.d (.list [lastD es x (tot es), lastD ls 0 y]))) (some (.d (.int (minI (sides es ls x y) h)))) (some (.d (.list [.int (minI (sides es ls x y) h), .int (minI (sides es ls x y) h)]))) x15 x16 x17 x18 x19 x20 x21 x22
  have s13 : Nxs (sFor (.n 15) (iArgs rng1 (asCons (eK (.int 6)) asNil)) levB) [some (.c 0), x1, some (.d (rowD es)), some (.d (rowD ls)), x4, some (.d (.int h)), some (.d (rowD (es ++ (1, h) :: ls))), some (.d (.int (1 + tot es))), some (.d (.int (1 + tot ls))), some (.d (.list ((ascI (hts (es ++ (1, h) :: ls))).map PyData.int))), some (.d (.int x)), some (.d (.int y)), some (.d (.list [lastD es x (tot es), lastD ls 0 y])), some (.d (.int (minI (sides es ls x y) h))), some (.d (.list [.int (minI (sides es ls x y) h), .int (minI (sides es ls x y) h)])), x15, x16, x17, x18, x19, x20, x21, x22] S5 [some (.c 0), x1, some (.d (rowD es)), some (.d (rowD ls)), x4, some (.d (.int h)), some (.d (rowD (es ++ (1, h) :: ls))), some (.d (.int (1 + tot es))), some (.d (.int (1 + tot ls))), some (.d (.list ((ascI (hts (es ++ (1, h) :: ls))).map PyData.int))), some (.d (.int x)), some (.d (.int y)), some (.d (.list [lastD es x (tot es), lastD ls 0 y])), some (.d (.int (minI (sides es ls x y) h))), y14, y15, y16, y17, y18, y19, y20, y21, y22] S5 := .for_ rfl lv
  exact ⟨_, _, _, _, _, _, _, _, _, _, _, _, _, _, _, _, _, _, _, _, _, S5, .seq s1 (.seq s2 (.seq s3 (.seq s4 (.seq s5 (.seq s6 (.seq s7 (.seq s8 (.seq s9 (.seq s10 (.seq s11 (.seq s12 s13))))))))))), w5⟩
theorem turns_ok : ∀ (ks : List PyData) (n : Nat) (S : Sto) (x1 x2 x3 x4 x5 x6 x7 x8 x9 x10 x11 x12 x13 x14 x15 x16 x17 x18 x19 x20 x21 x22 : Option Vl), UrnOk (n + 27 * ks.length) S →
    ∃ y1 y2 y3 y4 y5 y6 y7 y8 y9 y10 y11 y12 y13 y14 y15 y16 y17 y18 y19 y20 y21 y22 S', loopS (.n 1) turnB ks [some (.c 0), x1, x2, x3, x4, x5, x6, x7, x8, x9, x10, x11, x12, x13, x14, x15, x16, x17, x18, x19, x20, x21, x22] S = some (.nx, [some (.c 0), y1, y2, y3, y4, y5, y6, y7, y8, y9, y10, y11, y12, y13, y14, y15, y16, y17, y18, y19, y20, y21, y22], S') ∧ UrnOk n S'
  | [], n, S, x1, x2, x3, x4, x5, x6, x7, x8, x9, x10, x11, x12, x13, x14, x15, x16, x17, x18, x19, x20, x21, x22, u => ⟨_, _, _, _, _, _, _, _, _, _, _, _, _, _, _, _, _, _, _, _, _, _, S, rfl, u⟩
  | k :: ks, n, S, x1, x2, x3, x4, x5, x6, x7, x8, x9, x10, x11, x12, x13, x14, x15, x16, x17, x18, x19, x20, x21, x22, u => by
    rw [List.length_cons] at u
    obtain ⟨z2, z3, z4, z5, z6, z7, z8, z9, z10, z11, z12, z13, z14, z15, z16, z17, z18, z19, z20, z21, z22, S1, a, u'⟩ := turn_ok (n := n + 27 * ks.length) (S := S) (u1 u) (some (.d k)) x2 x3 x4 x5 x6 x7 x8 x9 x10 x11 x12 x13 x14 x15 x16 x17 x18 x19 x20 x21 x22
    obtain ⟨y1, y2, y3, y4, y5, y6, y7, y8, y9, y10, y11, y12, y13, y14, y15, y16, y17, y18, y19, y20, y21, y22, S', b, u2⟩ := turns_ok ks n S1 (some (.d k)) z2 z3 z4 z5 z6 z7 z8 z9 z10 z11 z12 z13 z14 z15 z16 z17 z18 z19 z20 z21 z22 u'
    exact ⟨y1, y2, y3, y4, y5, y6, y7, y8, y9, y10, y11, y12, y13, y14, y15, y16, y17, y18, y19, y20, y21, y22, S', loop_cons rfl a b, u2⟩
theorem right_ok {n : Nat} {S : Sto} (u : UrnOk (n + 216) S) : ∃ S', f__law_right [.c 0] S = .ok (.d (.bool true)) S' ∧ UrnOk n S' := by
  obtain ⟨y1, y2, y3, y4, y5, y6, y7, y8, y9, y10, y11, y12, y13, y14, y15, y16, y17, y18, y19, y20, y21, y22, S', b, u2⟩ := turns_ok (rangeL 0 8) n S none none none none none none none none none none none none none none none none none none none none none none u
  refine ⟨S', ?_, u2⟩
  exact fn_rts rfl rfl (.nx (.ifF (ev_notY (ev_test (callF_ok rfl (hand98 S)))) .nil) (.nx (.for_ rfl b) (.ret rfl))) rfl
end Sm

set_option maxHeartbeats 4000000
namespace Lf
open PySem PySem.Spec PyProof.Rows L2

/-! ## the source of draws, the numbers -/
def Urn (n : Nat) (u : Addr) (H : Hp) : Prop := ∃ a b c : Int, H u = some (.lst [.int a, .int b, .int c]) ∧ 0 ≤ a ∧ 0 ≤ b ∧ b < 2 ^ 62 ∧ 0 ≤ c ∧ c + n ≤ 1000000
def spBox (K : PySem.W.Frag) : Sp := fun vs H Q _ => ∃ (a : Addr) (ns : List Int) (k : Int), vs = [.ref a, .int k] ∧ SqL K H a (ns.map V.int) ∧ 0 ≤ k ∧ k ≤ 100 ∧
  ∀ p H', Same H H' → H p = none → Urn 1000000 p H' → Q (.ref p) H'
def spCells (K : PySem.W.Frag) : Sp := fun vs H Q _ => ∃ (a : Addr) (ns : List Int), vs = [.ref a, .int 3] ∧ SqL K H a (ns.map V.int) ∧ ns.length ≤ 63 ∧
  ∀ cs p H', Same H H' → H' p = some (.lst (List.map V.int cs)) → 1 ≤ cs.length → cs.length ≤ 3 → Q (.ref p) H'
theorem cutV_to (xs : List V) (k : Nat) : cutV xs none (some (k : Int)) = xs.take k := by
  unfold cutV
  rw [HT.sIx_nat, HT.sIx_none, List.drop_zero, Nat.sub_zero]
  by_cases h : k ≤ xs.length
  · rw [Nat.min_eq_left h]
  · rw [Nat.min_eq_right (by omega), List.take_length, List.take_of_length_le (by omega)]
theorem cutV_mid (xs : List V) (j k : Nat) (h : j ≤ xs.length) : cutV xs (some (j : Int)) (some (k : Int)) = (xs.drop j).take (k - j) := by
  unfold cutV
  rw [HT.sIx_nat, HT.sIx_nat, Nat.min_eq_left h]
  by_cases hk : k ≤ xs.length
  · rw [Nat.min_eq_left hk]
  · rw [Nat.min_eq_right (by omega), List.take_of_length_le, List.take_of_length_le] <;> rw [List.length_drop] <;> omega
theorem int_at {ns : List Int} {i : Int} (h0 : 0 ≤ i) (h1 : i < ns.length) : ∃ c : Int, atI (ns.map V.int) i = some (.int c) := by
  have hi : i.toNat < ns.length := by omega
  exact ⟨ns[i.toNat], at_of (j := i.toNat) (by omega) (by rw [List.getElem?_map]; simp [hi])⟩
theorem b01 (k : Bool) : -(2 ^ 64) < (if k = true then (1 : Int) else 0) ∧ (if k = true then (1 : Int) else 0) < 2 ^ 64 := by cases k <;> decide
theorem b0 (k : Bool) : 0 ≤ (if k = true then (1 : Int) else 0) := by cases k <;> decide
section
variable {P : Program} {w : World} {K : PySem.W.Frag} {mg : Str → Option Value} {base : Heap} {f : Addr} {fd : FuncData}
theorem scBox : FnScope ["_law_script", "_law_k", "_law_cell"] ["_law_script", "_law_k"] (defScope (Sm.topS 16)) := ⟨rfl, rfl, rfl, by decide +kernel, rfl, by decide +kernel, by decide +kernel⟩
theorem ok_box (B : Sm.Bn mg) (hab : mg "abs" = none) (F : Fun K "_law_box" "_law_box" (Sm.topS 16) f fd) : FnOk P w K mg base (L2.CX P w) 1 f fd ["_law_script", "_law_k"] (spBox K) := by
  refine F.okX scBox (fun vs H Q E h => ?_) (fun cdv A outer s H vs Q E hr h => ?_)
  · obtain ⟨a, ns, k, rfl, _⟩ := h
    rfl
  obtain ⟨a, ns, k, rfl, hS, k0, k1, q⟩ := h
  refine ⟨_, pss_cons (ps_set (i := 2) scBox.nd rfl (Or.inl rfl) (pe_ifExp (pt_cmpR op_lt (pv 1) (pe_callB call_len_seq (by rfl) B.len PySem.boot_len (pa_cons (pv 0) pa_nil)) (nomark _)) (pe_ix ix_list (pv 0) (pv 1) (fun _ _ => rfl)) pe_int))
    (pss_one (ps_ret (pe_lst (pa_cons (pe_op op_mul (pe_callB call_abs (by rfl) hab (by decide +kernel) (pa_cons (pv 2) pa_nil)) (pe_callTy call_int1 (by rfl) B.int boot_int (pa_cons (pe_cmpR op_ge (pe_callB call_abs (by rfl) hab (by decide +kernel) (pa_cons (pv 2) pa_nil)) (pe_op op_pow pe_int pe_int) (nomark _)) pa_nil)))
      (pa_cons (pe_op op_add (pe_op op_add (pe_op op_mod (pe_callTy call_int1 (by rfl) B.int boot_int (pa_cons (pv 2) pa_nil)) pe_int) (pe_op op_mul pe_int (pv 1))) pe_int)
      (pa_cons pe_int pa_nil)))))), ?_⟩
  have main : ∀ c : Int, (tRet (tLst (tCons (tOp (rI CMul fun i j => V.int (i * j)) (tCB (fun xs H Q => ∃ i, xs = [V.int i] ∧ Q (.int (if i < 0 then -i else i)) H) (tCons (tVar 2) tNil))
      (tCB (fun xs H Q => (∃ i, xs = [V.int i] ∧ Q (.int i) H) ∨ ∃ k, xs = [V.bl k] ∧ Q (.int (if k then 1 else 0)) H) (tCons (tOp (rI0 fun i j => .bl (decide (j ≤ i))) (tCB (fun xs H Q => ∃ i, xs = [V.int i] ∧ Q (.int (if i < 0 then -i else i)) H) (tCons (tVar 2) tNil)) (tOp (rI CPow fun i j => .int (i ^ j.toNat)) (tC (.int 10)) (tC (.int 18)))) tNil)))
      (tCons (tOp (rI0 fun i j => .int (i + j)) (tOp (rI0 fun i j => .int (i + j)) (tOp (rI (fun _ j => 0 < j) fun i j => .int (i % j)) (tCB (fun xs H Q => (∃ i, xs = [V.int i] ∧ Q (.int i) H) ∨ ∃ k, xs = [V.bl k] ∧ Q (.int (if k then 1 else 0)) H) (tCons (tVar 2) tNil)) (tC (.int 2305843009213693951))) (tOp (rI CMul fun i j => V.int (i * j)) (tC (.int 39373)) (tVar 1))) (tC (.int 142398)))
      (tCons (tC (.int 0)) tNil))))) { nx := fun _ H' => Q .non H', rt := Q } [some (.ref a), some (.int k), some (.int c)] H := by
    intro c
    have hab : 0 ≤ (if c < 0 then -c else c) := by split <;> omega
    refine ⟨_, rfl, c, rfl, _, rfl, c, rfl, _, _, rfl, rfl, ⟨by decide, by decide, by decide⟩, _, _, rfl, rfl, .inr ⟨_, rfl, _, _, rfl, rfl, .inr (b01 _), ?_⟩⟩
    refine ⟨_, rfl, .inl ⟨_, rfl, _, _, rfl, rfl, (show (0 : Int) < 2305843009213693951 by decide), ?_⟩⟩
    have m0 : 0 ≤ c % 2305843009213693951 := Int.emod_nonneg _ (by decide)
    have m1 : c % 2305843009213693951 < 2305843009213693951 := Int.emod_lt_of_pos _ (by decide)
    refine ⟨_, rfl, _, _, rfl, rfl, .inl ⟨by decide, by decide⟩, _, _, rfl, rfl, _, _, rfl, rfl, (by show 3 ≤ sizeLine; decide), fun p np => ?_⟩
    refine q p _ (same_new np _) np ⟨_, _, _, upd_same, ?_, by omega, by omega, by decide, by decide⟩
    exact Int.mul_nonneg hab (b0 _)
  refine ⟨_, rfl, _, rfl, _, _, rfl, .inl hS, _, _, rfl, rfl, _, rfl, ?_⟩
  refine ite2 (fun z => ?_) (fun z => ?_)
  · have z' : k < (((ns.map V.int).length : Nat) : Int) := of_decide_eq_true z
    rw [List.length_map] at z'
    obtain ⟨c, hc⟩ := int_at k0 z'
    exact ⟨_, rfl, _, rfl, a, _, _, _, rfl, rfl, hS, hc, main c⟩
  · exact main 0

theorem scCells : FnScope ["_law_script", "_law_top", "_law_cells_here", "_law_k", "_law_cell", "_law_at_so"] ["_law_script", "_law_top"] (defScope (Sm.topS 18)) := ⟨rfl, rfl, rfl, by decide +kernel, rfl, by decide +kernel, by decide +kernel⟩
theorem ok_cells (B : Sm.Bn mg) (hen : mg "enumerate" = none) (F : Fun K "_law_cells" "_law_cells" (Sm.topS 18) f fd) : FnOk P w K mg base (L2.CX P w) 1 f fd ["_law_script", "_law_top"] (spCells K) := by
  refine F.okX scCells (fun vs H Q E h => ?_) (fun cdv A outer s H vs Q E hr h => ?_)
  · obtain ⟨a, ns, rfl, _⟩ := h
    rfl
  obtain ⟨a, ns, rfl, hS, hl, q⟩ := h
  refine ⟨_, pss_cons (ps_set (i := 2) scCells.nd rfl (Or.inl rfl) (pe_orT (pe_callTy call_list_of (by rfl) B.list (by decide +kernel) (pa_cons (pe_slice sl_list (pv 0) po_none (po_some (pv 1))) pa_nil)) (pe_one (pe_lst (pa_cons pe_int pa_nil)))))
    (pss_cons (ps_for (passes_of rfl) rfl (pi_enum (by rfl) hen (pa_cons (pe_slice sl_list (pv 0) (po_some (pv 1)) (po_some pe_int)) pa_nil))
      (pg_tup rfl (pgs_cons (pg_name (i := 3) scCells.nd rfl (Or.inl rfl)) (pgs_cons (pg_name (i := 4) scCells.nd rfl (Or.inl rfl)) pgs_nil)))
      (pss_cons (ps_set (i := 5) scCells.nd rfl (Or.inl rfl) (pe_op op_mod (pe_callTy call_int1 (by rfl) B.int boot_int (pa_cons (pv 3) pa_nil)) (pv 1)))
      (pss_one (ps_asg (pe_op op_add (pe_ix ix_list (pv 2) (pv 5) (fun _ _ => rfl)) (pe_op op_mul (pv 4) (pe_op op_add (pv 3) pe_int))) (pg_sub (pv 2) (pv 5) set_list)))))
    (pss_one (ps_ret (pv 2)))), ?_⟩
  have main : ∀ (c : Addr) (cs : List Int) (H1 : Hp), Same H H1 → H c = none → H1 c = some (.lst (cs.map V.int)) → 1 ≤ cs.length → cs.length ≤ 3 → (3 < ns.length → cs.length = 3) →
      (tSeq (tFor (iEnum K (tCons (tSl (rSlL K) (tVar 0) (tPart (tVar 1)) (tPart (tC (.int 63)))) tNil)) (gTup K 2 (gCons (gName 3) (gCons (gName 4) gNil)))
        (tSeq (tAsg (tOp (rI (fun _ j => 0 < j) fun i j => .int (i % j)) (tCB (fun xs H Q => (∃ i, xs = [V.int i] ∧ Q (.int i) H) ∨ ∃ k, xs = [V.bl k] ∧ Q (.int (if k then 1 else 0)) H) (tCons (tVar 3) tNil)) (tVar 1)) (gName 5))
          (tAsg (tOp (rI0 fun i j => .int (i + j)) (tOp (rIxL K) (tVar 2) (tVar 5)) (tOp (rI CMul fun i j => V.int (i * j)) (tVar 4) (tOp (rI0 fun i j => .int (i + j)) (tVar 3) (tC (.int 2))))) (gSub (tVar 2) (tVar 5) rSetL))))
        (tRet (tVar 2))) { nx := fun _ H' => Q .non H', rt := Q } [some (.ref a), some (.int 3), some (.ref c), none, none, none] H1 := by
    intro c cs H1 s1 nc hc l1 l3 l33
    have hS1 : SqL K H1 a (ns.map V.int) := s1.seq hS
    refine ⟨_, rfl, _, rfl, 3, rfl, 63, rfl, a, _, rfl, hS1, fun p np => ?_⟩
    have ecut : cutV (ns.map V.int) (some (3 : Int)) (some (63 : Int)) = ((ns.drop 3).take 60).map V.int := by
      by_cases h3 : 3 ≤ ns.length
      · have h := cutV_mid (ns.map V.int) 3 63 (by rw [List.length_map]; exact h3)
        rw [show ((3 : Nat) : Int) = (3 : Int) from rfl, show ((63 : Nat) : Int) = (63 : Int) from rfl] at h
        rw [h, ← List.map_drop, ← List.map_take]
      · have h1 : ns.drop 3 = [] := List.drop_eq_nil_of_le (by omega)
        rw [h1]
        unfold cutV
        rw [show HT.sIx (ns.map V.int).length 0 (some (3 : Int)) = min 3 (ns.map V.int).length from HT.sIx_nat _ _ 3, List.length_map, Nat.min_eq_right (by omega), List.drop_eq_nil_of_le (by rw [List.length_map]; exact Nat.le_refl _), List.take_nil]
        rfl
    rw [ecut]
    have s2 := same_new np (.lst (((ns.drop 3).take 60).map V.int))
    have e2 : upd H1 p (.lst (((ns.drop 3).take 60).map V.int)) p = some (.lst (((ns.drop 3).take 60).map V.int)) := upd_same
    have hc2 := s2 _ _ hc
    have hpc : p ≠ c := fun e => by
      rw [e] at np
      rw [hc] at np
      cases np
    generalize upd H1 p (.lst (((ns.drop 3).take 60).map V.int)) = H2 at s2 e2 hc2 ⊢
    generalize hms : (ns.drop 3).take 60 = ms at e2
    have hml : ms.length ≤ 60 ∧ (0 < ms.length → cs.length = 3) := by
      rw [← hms, List.length_take, List.length_drop]
      exact ⟨by omega, fun h => l33 (by omega)⟩
    refine ⟨p, _, rfl, .of e2, ?_⟩
    refine for_it (walk_enum (K := K) (a := p) (xs := ms.map V.int)) (fun i σ H3 => ∃ t3 t4 t5 zs, σ = [some (.ref a), some (.int 3), some (.ref c), t3, t4, t5] ∧ Same H H3 ∧ H3 p = some (.lst (ms.map V.int)) ∧ H3 c = some (.lst (List.map V.int zs)) ∧ zs.length = cs.length)
      ⟨none, none, none, cs, rfl, s1.trans s2, e2, hc2, rfl⟩ (fun i σ H3 _ hP => ?_) (fun i x σ H3 H4 hi hP hY => ?_) (fun σ H3 hP => ?_)
    · obtain ⟨t3, t4, t5, zs, rfl, _, hp, _⟩ := hP
      exact .of hp
    · obtain ⟨T, x1, x2, rfl, nT, rfl, e1, e2⟩ := hY
      obtain ⟨t3, t4, t5, zs, rfl, sm, hp, hc3, hz⟩ := hP
      have ex1 : x1 = .int (i : Nat) := (Option.some.inj e1).symm
      subst ex1
      obtain ⟨y, hy⟩ : ∃ y : Int, x2 = .int y := by
        have e2' : (ms.map V.int)[i]? = some x2 := e2
        rw [List.getElem?_map] at e2'
        cases e : ms[i]? with
        | none =>
          rw [e] at e2'
          cases e2'
        | some y =>
          rw [e] at e2'
          exact ⟨y, (Option.some.inj e2').symm⟩
      subst hy
      rw [List.length_map] at hi
      have h3 : cs.length = 3 := hml.2 (by omega)
      have s5 := same_new nT (.tup [.int (i : Nat), .int y])
      have hc5 := s5 _ _ hc3
      have hp5 := s5 _ _ hp
      refine ⟨T, _, rfl, .of upd_same, rfl, _, _, rfl, _, _, rfl, rfl, ?_⟩
      generalize upd H3 T (.tup [.int (i : Nat), .int y]) = H5 at s5 hc5 hp5 ⊢
      refine ⟨_, rfl, .inl ⟨_, rfl, _, rfl, _, _, rfl, rfl, (show (0 : Int) < 3 by decide), ?_⟩⟩
      have m0 : 0 ≤ (i : Int) % 3 := Int.emod_nonneg _ (by decide)
      have m1 : (i : Int) % 3 < 3 := Int.emod_lt_of_pos _ (by decide)
      obtain ⟨z, hz1⟩ := int_at (ns := zs) m0 (by omega)
      refine ⟨_, rfl, _, rfl, c, _, _, _, rfl, rfl, .of hc5, hz1, _, rfl, _, rfl, _, _, rfl, rfl, _, _, rfl, rfl, .inr ⟨by omega, by omega⟩, _, _, rfl, rfl, _, rfl, _, rfl, c, _, _, ((i : Int) % 3).toNat, rfl, rfl, hc5, ?_, ?_⟩
      · unfold ixN
        rw [if_pos m0, if_pos (by rw [List.length_map]; omega)]
      refine ⟨_, _, _, zs.set ((i : Int) % 3).toNat (z + y * ((i : Int) + 2)), rfl, same_upd (sm.trans s5) nc _, ?_, ?_, ?_⟩
      · rw [upd_ne hpc]
        exact hp5
      · rw [upd_same, List.map_set]
      · rw [List.length_set]
        exact hz
    · obtain ⟨t3, t4, t5, zs, rfl, sm, hp, hc3, hz⟩ := hP
      exact ⟨_, rfl, q zs c H3 sm hc3 (by omega) (by omega)⟩
  refine ⟨_, rfl, _, rfl, 3, rfl, a, _, rfl, hS, fun p np => ?_⟩
  have ecut : cutV (ns.map V.int) none (some (3 : Int)) = (ns.take 3).map V.int := by
    have h := cutV_to (ns.map V.int) 3
    rw [show ((3 : Nat) : Int) = (3 : Int) from rfl] at h
    rw [h, List.map_take]
  rw [ecut]
  have s1 := same_new np (.lst ((ns.take 3).map V.int))
  refine ⟨p, _, rfl, .inl (.of upd_same), fun c nc => ?_⟩
  have s2 := s1.trans (same_new nc (.lst ((ns.take 3).map V.int)))
  refine ⟨!((ns.take 3).map V.int).isEmpty, .inl ⟨_, .of upd_same, rfl⟩, ?_⟩
  have nc0 : H c = none := s1.free nc
  by_cases he : ns = []
  · subst he
    refine iteF ?_
    refine ⟨by show 1 ≤ sizeLine; decide, fun g ng => ?_⟩
    exact main g [0] _ (s2.trans (same_new ng _)) (s2.free ng) upd_same (by decide) (by decide) (fun h => absurd h (by simp))
  · have hne : (!((ns.take 3).map V.int).isEmpty) = true := by
      cases ns with
      | nil => exact absurd rfl he
      | cons _ _ => rfl
    rw [hne]
    refine iteT ?_
    refine main c (ns.take 3) _ s2 nc0 upd_same ?_ ?_ ?_
    · rw [List.length_take]
      have : 0 < ns.length := List.length_pos_iff.mpr he
      omega
    · rw [List.length_take]
      omega
    · rw [List.length_take]
      omega
end
end Lf

set_option maxHeartbeats 4000000
namespace Lf
open PySem PySem.Spec PyProof.Rows L2

/-! ## the whole law -/
theorem yes {σ : L2.St} {H : Hp} {Q : Bool → Hp → Prop} (h : Q true H) : tYes σ H Q := h
/-- a def of the text, by its promise -/
def HasC (P : Program) (w : World) (K : PySem.W.Frag) (mg : Str → Option Value) (base : Heap) (k : Nat) (x : Str) (ps : List Str) (sp : Sp) : Prop :=
  ∃ (f : Addr) (fd : FuncData), FnOk P w K mg base (L2.CX P w) k f fd ps sp ∧ mg x = some (.ref f) ∧ PySem.W.keepIn K (.ref f) = true ∧ Binds K fd ps []
theorem pe_hasC {X : Cx} {W : WX} {k : Nat} {x : Str} {ps : List Str} {sp : Sp} {e : Expr} {es : List Expr} {t : TA} {p pos : Pos} (G : HasC X.prog X.w X.K X.mg X.base k x ps sp) (tk : Takes X W) (hr : Room k X.A) (ha : PA X (e :: es) t) (hg : Gl X x := by rfl) (hdb : (x == ("__debug__" : Str)) = false := by decide)
    (he : starEach (e :: es) X.env = (false, eval e X.env) :: starEach es X.env := by rfl) (hpl : (backTo pos (starEach es X.env)).any (·.1) = false := by rfl) :
    PE X (.Call (.Name x p) (e :: es) [] pos) (tCallS sp (WE W) t) := by
  obtain ⟨f, fd, ok, m, kp, b⟩ := G
  exact pe_callS ok hr hg m kp b (fun σ => passAt tk σ) ha hdb he hpl
theorem Sm.right_run {K : PySem.W.Frag} {cm : Sm.CM} {u : Addr} {H4 H5 : Hp} {Q : VK} {E : XK} (s5 : Same H4 H5) (nu : H4 u = none) (hu : Urn 1000000 u H5) (q : ∀ H6, Same H4 H6 → Q (.bl true) H6) : Sm.spF cm 1 Sm.f__law_right [.ref u] H5 Q E := by
  obtain ⟨a, b, c, h1, h2, h3, h4, h5, h6⟩ := hu
  have uo : Sm.UrnOk (999784 + 216) [[.int a, .int b, .int c]] := ⟨a, b, c, rfl, h2, h3, h4, h5, h6⟩
  obtain ⟨S', e, _⟩ := Sm.right_ok uo
  have wd : Sm.Wd cm [u] [[.int a, .int b, .int c]] (hide u H5) [] H5 := {
    sub := hide_sub
    frs := fun p hp => by cases hp
    ndF := List.nodup_nil
    cel := fun n ds hd => by
      match n, hd with
      | 0, hd =>
        cases hd
        exact ⟨u, _, rfl, h1, .cons (.int a) (.cons (.int b) (.cons (.int c) .nil))⟩
    out := fun x hx => by
      have : x = u := by simpa using hx
      rw [this]
      unfold hide
      rw [if_pos rfl]
    ndA := List.nodup_cons.mpr ⟨by simp, List.nodup_nil⟩
    len := rfl }
  refine ⟨[u], _, _, [], [.c 0], rfl, wd, .cons ⟨u, rfl, rfl⟩ .nil, ?_⟩
  rw [e]
  intro D' H' wd' s' v hv
  cases hv
  exact q H' fun x o hx => wd'.sub _ _ (s' _ _ (hide_in (ne_of_none hx nu) (s5 _ _ hx)))
def spLaw (K : PySem.W.Frag) : Sp := fun vs H Q _ => ∃ (a : Addr) (ns : List Int), vs = [.ref a] ∧ SqL K H a (ns.map V.int) ∧ ns.length ≤ 63 ∧ ∀ H', Q (.bl true) H'
section
variable {P : Program} {w : World} {K : PySem.W.Frag} {mg : Str → Option Value} {base : Heap} {f : Addr} {fd : FuncData} {cm : Sm.CM}
theorem scLaw : FnScope ["_law_script", "_law_cells_here", "_law_k"] ["_law_script"] (defScope (Sm.topS 24)) := ⟨rfl, rfl, rfl, by decide +kernel, rfl, by decide +kernel, by decide +kernel⟩
theorem ok_law (B : Sm.Bn mg) (gC : HasC P w K mg base 1 "_law_cells" ["_law_script", "_law_top"] (spCells K)) (gX : HasC P w K mg base 1 "_law_box" ["_law_script", "_law_k"] (spBox K))
    (gR : Sm.GF P w K mg base cm 11 "_law_right" ["_law_urn"] Sm.f__law_right) (F : Fun K "law" "law" (Sm.topS 24) f fd) : FnOk P w K mg base (L2.CX P w) 12 f fd ["_law_script"] (spLaw K) := by
  refine F.okX scLaw (fun vs H Q E h => ?_) (fun cdv A outer s H vs Q E hr h => ?_)
  · obtain ⟨a, ns, rfl, _⟩ := h
    rfl
  obtain ⟨a, ns, rfl, hS, hl, q⟩ := h
  refine ⟨_, pss_cons (ps_set (i := 1) scLaw.nd rfl (Or.inr rfl) (pe_hasC gC (takes_of rfl rfl rfl rfl) (hr.mono (by decide)) (pa_cons (pv 0) (pa_cons pe_int pa_nil))))
    (pss_one (ps_ret (pe_callB (cr_all rfl) (by rfl) B.all (by decide +kernel) (pa_cons
      (pe_lc (own := [("_law_k", 2)]) (g := gName 2) rfl scLaw.nd (pi_range1 (by rfl) B.range (pa_cons (pe_callB call_len_seq (by rfl) B.len PySem.boot_len (pa_cons (pv 1) pa_nil)) pa_nil))
        (blkOk_by (own := [("_law_k", 2)]) (N := ["_law_script", "_law_cells_here", "_law_k"]) (sc := defScope (Sm.topS 24)) (by decide +kernel))
        (fun _ _ _ _ _ => pg_name (i := 2) scLaw.nd rfl (Or.inl rfl)) (fun _ _ _ _ _ => pts_nil)
        (fun _ _ _ _ _ => pe_hasC gR takes0 hr (pa_cons (pe_hasC gX takes0 (hr.mono (by decide)) (pa_cons (pv 1) (pa_cons (pv 2) pa_nil))) pa_nil))) pa_nil)))), ?_⟩
  refine ⟨_, rfl, a, ns, rfl, hS, hl, fun cs c H2 s2 hc c1 c2 => ?_⟩
  refine ⟨_, rfl, _, _, rfl, .inl (.of hc), _, rfl, by rw [List.length_map]; omega, by rw [List.length_map]; omega, fun D nD => ?_⟩
  rw [List.length_map]
  refine lc_it (walk_range (lo := 0) (n := (cs.length : Int).toNat)) (fun i H3 => Same H2 H3 ∧ H3 D = some (.lst ((List.replicate i true).map V.bl))) ⟨same_new nD _, upd_same⟩ (fun _ _ _ _ => trivial) (fun i x H3 H4 hi hP hY => ?_) (fun H3 hP => ?_)
  · obtain ⟨rfl, rfl⟩ := hY
    obtain ⟨sm, hD⟩ := hP
    refine ⟨rfl, yes ?_⟩
    rw [if_pos rfl]
    refine ⟨_, rfl, _, rfl, c, cs, _, rfl, .of (sm _ _ hc), by omega, by omega, fun u H5 s5 nu hu => ?_⟩
    refine Sm.right_run (K := K) s5 nu hu fun H6 s6 => ?_
    refine ⟨_, s6 _ _ hD, ?_, same_upd (sm.trans s6) nD _, ?_⟩
    · rw [List.length_map, List.length_replicate]
      exact small1000 (by omega)
    · rw [upd_same, List.replicate_succ', List.map_append]
      rfl
  · obtain ⟨sm, hD⟩ := hP
    refine ⟨D, _, rfl, .of hD, ?_⟩
    rw [show (List.replicate (cs.length : Int).toNat true).all id = true by simp]
    exact q H3
end
end Lf

set_option maxHeartbeats 4000000
namespace Lf
open PySem PySem.Spec PyProof.Rows L2

/-! ## the program's top -/
/-- a def of the text as the top leaves it -/
def DefAt (K : PySem.W.Frag) (mg : Str → Option Value) (x : Str) (st : Stmt) : Prop := ∃ (f : Addr) (fd : FuncData), Fun K x x st f fd ∧ mg x = some (.ref f)
theorem def_mk {K : PySem.W.Frag} {h : Heap} {mg : Str → Option Value} (X : K.In h) (G : h.Ns mainGlobals mg) {x : Str} {st : Stmt} {f : Addr} {od an : Option Addr} {sl : Array (Option Value)} {oc kV dc pm cd ct : Value}
    (a : PySem.W.nsIn K mainGlobals x = some (some (.ref f))) (l : K.lookup f = some ⟨oc, od, .func (PySem.W.fnOf x x (defArgs st) (defBody st) (defScope st) .none kV dc pm an cd ct), sl⟩) (c : PySem.W.codeIn K cd x = true) (k : PySem.W.keepIn K (.ref f) = true) : DefAt K mg x st :=
  ⟨f, _, fun_mk l c k, PySem.W.mg_of X G a⟩
section
variable {P : Program} {w : World} {K : PySem.W.Frag} {mg : Str → Option Value} {base : Heap}
/-- all that the top leaves keeps its promise -/
theorem all_ok (B : Sm.Bn mg) (hab : mg "abs" = none) (hen : mg "enumerate" = none) (d1 : DefAt K mg "ascending" (Sm.topS 1)) (d5 : DefAt K mg "islands_in" (Sm.topS 5)) (d6 : DefAt K mg "check_numbers" (Sm.topS 6)) (d7 : DefAt K mg "runs" (Sm.topS 7)) (d8 : DefAt K mg "last_height" (Sm.topS 8)) (d9 : DefAt K mg "lots_at" (Sm.topS 9)) (d10 : DefAt K mg "lot_at" (Sm.topS 10)) (d11 : DefAt K mg "great_lots" (Sm.topS 11)) (d12 : DefAt K mg "greatest_lot" (Sm.topS 12)) (d13 : DefAt K mg "how_many_joined" (Sm.topS 13)) (d14 : DefAt K mg "waters_of" (Sm.topS 14)) (d17 : DefAt K mg "_law_take" (Sm.topS 17)) (d19 : DefAt K mg "_law_of" (Sm.topS 19)) (d20 : DefAt K mg "_law_same" (Sm.topS 20)) (d21 : DefAt K mg "_law_row" (Sm.topS 21)) (d22 : DefAt K mg "_law_by_hand_right" (Sm.topS 22)) (d23 : DefAt K mg "_law_right" (Sm.topS 23)) (d16 : DefAt K mg "_law_box" (Sm.topS 16)) (d18 : DefAt K mg "_law_cells" (Sm.topS 18)) {f : Addr} {fd : FuncData} (F : Fun K "law" "law" (Sm.topS 24) f fd) : FnOk P w K mg base (L2.CX P w) 12 f fd ["_law_script"] (spLaw K) := by
  obtain ⟨f1, fd1, F1, m1⟩ := d1
  have b1 : Binds K fd1 ["values"] [] := F1.binds fun _ _ _ _ _ _ us hl => match us, hl with | [_], _ => rfl
  obtain ⟨f5, fd5, F5, m5⟩ := d5
  have b5 : Binds K fd5 ["row"] [] := F5.binds fun _ _ _ _ _ _ us hl => match us, hl with | [_], _ => rfl
  obtain ⟨f6, fd6, F6, m6⟩ := d6
  have b6 : Binds K fd6 ["row", "islands"] [] := F6.binds fun _ _ _ _ _ _ us hl => match us, hl with | [_, _], _ => rfl
  obtain ⟨f7, fd7, F7, m7⟩ := d7
  have b7 : Binds K fd7 ["row"] [] := F7.binds fun _ _ _ _ _ _ us hl => match us, hl with | [_], _ => rfl
  obtain ⟨f8, fd8, F8, m8⟩ := d8
  have b8 : Binds K fd8 ["row", "one", "other"] [] := F8.binds fun _ _ _ _ _ _ us hl => match us, hl with | [_, _, _], _ => rfl
  obtain ⟨f9, fd9, F9, m9⟩ := d9
  have b9 : Binds K fd9 ["row", "water"] [] := F9.binds fun _ _ _ _ _ _ us hl => match us, hl with | [_, _], _ => rfl
  obtain ⟨f10, fd10, F10, m10⟩ := d10
  have b10 : Binds K fd10 ["row", "island", "water"] [] := F10.binds fun _ _ _ _ _ _ us hl => match us, hl with | [_, _, _], _ => rfl
  obtain ⟨f11, fd11, F11, m11⟩ := d11
  have b11 : Binds K fd11 ["row", "water"] [] := F11.binds fun _ _ _ _ _ _ us hl => match us, hl with | [_, _], _ => rfl
  obtain ⟨f12, fd12, F12, m12⟩ := d12
  have b12 : Binds K fd12 ["row", "water"] [] := F12.binds fun _ _ _ _ _ _ us hl => match us, hl with | [_, _], _ => rfl
  obtain ⟨f13, fd13, F13, m13⟩ := d13
  have b13 : Binds K fd13 ["row", "water"] [] := F13.binds fun _ _ _ _ _ _ us hl => match us, hl with | [_, _], _ => rfl
  obtain ⟨f14, fd14, F14, m14⟩ := d14
  have b14 : Binds K fd14 ["row"] [] := F14.binds fun _ _ _ _ _ _ us hl => match us, hl with | [_], _ => rfl
  obtain ⟨f17, fd17, F17, m17⟩ := d17
  have b17 : Binds K fd17 ["_law_urn", "_law_low_so"] [] := F17.binds fun _ _ _ _ _ _ us hl => match us, hl with | [_, _], _ => rfl
  obtain ⟨f19, fd19, F19, m19⟩ := d19
  have b19 : Binds K fd19 ["_law_urn", "_law_some_so"] [] := F19.binds fun _ _ _ _ _ _ us hl => match us, hl with | [_, _], _ => rfl
  obtain ⟨f20, fd20, F20, m20⟩ := d20
  have b20 : Binds K fd20 ["_law_got", "_law_goal"] [] := F20.binds fun _ _ _ _ _ _ us hl => match us, hl with | [_, _], _ => rfl
  obtain ⟨f21, fd21, F21, m21⟩ := d21
  have b21 : Binds K fd21 ["_law_urn", "_law_most", "_law_top"] [] := F21.binds fun _ _ _ _ _ _ us hl => match us, hl with | [_, _, _], _ => rfl
  obtain ⟨f22, fd22, F22, m22⟩ := d22
  have b22 : Binds K fd22 [] [] := F22.binds fun _ _ _ _ _ _ us hl => match us, hl with | [], _ => rfl
  obtain ⟨f23, fd23, F23, m23⟩ := d23
  have b23 : Binds K fd23 ["_law_urn"] [] := F23.binds fun _ _ _ _ _ _ us hl => match us, hl with | [_], _ => rfl
  obtain ⟨f16, fd16, F16, m16⟩ := d16
  have b16 : Binds K fd16 ["_law_script", "_law_k"] [] := F16.binds fun _ _ _ _ _ _ us hl => match us, hl with | [_, _], _ => rfl
  obtain ⟨f18, fd18, F18, m18⟩ := d18
  have b18 : Binds K fd18 ["_law_script", "_law_top"] [] := F18.binds fun _ _ _ _ _ _ us hl => match us, hl with | [_, _], _ => rfl
  have g1 : Sm.GF P w K mg base (fun _ _ => False) 1 "ascending" ["values"] Sm.f_ascending := ⟨f1, fd1, Sm.ok_ascending B  F1, m1, F1.kp, b1⟩
  have g5 : Sm.GF P w K mg base (fun _ _ => False) 1 "islands_in" ["row"] Sm.f_islands_in := ⟨f5, fd5, Sm.ok_islands_in B  F5, m5, F5.kp, b5⟩
  have g6 : Sm.GF P w K mg base (fun _ _ => False) 2 "check_numbers" ["row", "islands"] Sm.f_check_numbers := ⟨f6, fd6, Sm.ok_check_numbers B g5 F6, m6, F6.kp, b6⟩
  have g7 : Sm.GF P w K mg base (fun _ _ => False) 1 "runs" ["row"] Sm.f_runs := ⟨f7, fd7, Sm.ok_runs B  F7, m7, F7.kp, b7⟩
  have g8 : Sm.GF P w K mg base (fun _ _ => False) 3 "last_height" ["row", "one", "other"] Sm.f_last_height := ⟨f8, fd8, Sm.ok_last_height B g6 g7 F8, m8, F8.kp, b8⟩
  have g9 : Sm.GF P w K mg base (fun _ _ => False) 1 "lots_at" ["row", "water"] Sm.f_lots_at := ⟨f9, fd9, Sm.ok_lots_at B  F9, m9, F9.kp, b9⟩
  have g10 : Sm.GF P w K mg base (fun _ _ => False) 3 "lot_at" ["row", "island", "water"] Sm.f_lot_at := ⟨f10, fd10, Sm.ok_lot_at B g5 g6 g7 F10, m10, F10.kp, b10⟩
  have g11 : Sm.GF P w K mg base (fun _ _ => False) 1 "great_lots" ["row", "water"] Sm.f_great_lots := ⟨f11, fd11, Sm.ok_great_lots B  F11, m11, F11.kp, b11⟩
  have g12 : Sm.GF P w K mg base (fun _ _ => False) 2 "greatest_lot" ["row", "water"] Sm.f_greatest_lot := ⟨f12, fd12, Sm.ok_greatest_lot B g11 F12, m12, F12.kp, b12⟩
  have g13 : Sm.GF P w K mg base (fun _ _ => False) 2 "how_many_joined" ["row", "water"] Sm.f_how_many_joined := ⟨f13, fd13, Sm.ok_how_many_joined B g11 F13, m13, F13.kp, b13⟩
  have g14 : Sm.GF P w K mg base (fun _ _ => False) 2 "waters_of" ["row"] Sm.f_waters_of := ⟨f14, fd14, Sm.ok_waters_of B g1 F14, m14, F14.kp, b14⟩
  have g17 : Sm.GF P w K mg base (fun _ _ => False) 1 "_law_take" ["_law_urn", "_law_low_so"] Sm.f__law_take := ⟨f17, fd17, Sm.ok__law_take B  F17, m17, F17.kp, b17⟩
  have g19 : Sm.GF P w K mg base (fun _ _ => False) 2 "_law_of" ["_law_urn", "_law_some_so"] Sm.f__law_of := ⟨f19, fd19, Sm.ok__law_of B g17 F19, m19, F19.kp, b19⟩
  have g20 : Sm.GF P w K mg base (fun _ _ => False) 9 "_law_same" ["_law_got", "_law_goal"] (Sm.f__law_same 8) := Sm.gf__law_same B  F20 m20 b20 8
  have g21 : Sm.GF P w K mg base (fun _ _ => False) 2 "_law_row" ["_law_urn", "_law_most", "_law_top"] Sm.f__law_row := ⟨f21, fd21, Sm.ok__law_row B g17 F21, m21, F21.kp, b21⟩
  have g22 : Sm.GF P w K mg base (fun _ _ => False) 10 "_law_by_hand_right" [] Sm.f__law_by_hand_right := ⟨f22, fd22, Sm.ok__law_by_hand_right B g5 g8 g9 g10 g12 g13 g20 F22, m22, F22.kp, b22⟩
  have g23 : Sm.GF P w K mg base (fun _ _ => False) 11 "_law_right" ["_law_urn"] Sm.f__law_right := ⟨f23, fd23, Sm.ok__law_right B g5 g8 g9 g10 g12 g13 g14 g17 g19 g20 g21 g22 F23, m23, F23.kp, b23⟩
  have gX : HasC P w K mg base 1 "_law_box" ["_law_script", "_law_k"] (spBox K) := ⟨f16, fd16, ok_box B hab F16, m16, F16.kp, b16⟩
  have gC : HasC P w K mg base 1 "_law_cells" ["_law_script", "_law_top"] (spCells K) := ⟨f18, fd18, ok_cells B hen F18, m18, F18.kp, b18⟩
  exact ok_law (cm := fun _ _ => False) B gC gX g23 F
end
theorem all_mk {l : PySem.W.OpenLaw} {w : World} {K : PySem.W.Frag} {h : Heap} {mg : Str → Option Value} {fa : Addr} (X : K.In h) (G : h.Ns mainGlobals mg) (hfa : mg "law" = some (.ref fa))
    {f1 f5 f6 f7 f8 f9 f10 f11 f12 f13 f14 f16 f17 f18 f19 f20 f21 f22 f23 f24 : Addr} {od1 an1 od5 an5 od6 an6 od7 an7 od8 an8 od9 an9 od10 an10 od11 an11 od12 an12 od13 an13 od14 an14 od16 an16 od17 an17 od18 an18 od19 an19 od20 an20 od21 an21 od22 an22 od23 an23 od24 an24 : Option Addr} {sl1 sl5 sl6 sl7 sl8 sl9 sl10 sl11 sl12 sl13 sl14 sl16 sl17 sl18 sl19 sl20 sl21 sl22 sl23 sl24 : Array (Option Value)} {oc1 kV1 dc1 pm1 cd1 ct1 oc5 kV5 dc5 pm5 cd5 ct5 oc6 kV6 dc6 pm6 cd6 ct6 oc7 kV7 dc7 pm7 cd7 ct7 oc8 kV8 dc8 pm8 cd8 ct8 oc9 kV9 dc9 pm9 cd9 ct9 oc10 kV10 dc10 pm10 cd10 ct10 oc11 kV11 dc11 pm11 cd11 ct11 oc12 kV12 dc12 pm12 cd12 ct12 oc13 kV13 dc13 pm13 cd13 ct13 oc14 kV14 dc14 pm14 cd14 ct14 oc16 kV16 dc16 pm16 cd16 ct16 oc17 kV17 dc17 pm17 cd17 ct17 oc18 kV18 dc18 pm18 cd18 ct18 oc19 kV19 dc19 pm19 cd19 ct19 oc20 kV20 dc20 pm20 cd20 ct20 oc21 kV21 dc21 pm21 cd21 ct21 oc22 kV22 dc22 pm22 cd22 ct22 oc23 kV23 dc23 pm23 cd23 ct23 oc24 kV24 dc24 pm24 cd24 ct24 : Value}
    (a1 : PySem.W.nsIn K mainGlobals "ascending" = some (some (.ref f1))) (l1 : K.lookup f1 = some ⟨oc1, od1, .func (PySem.W.fnOf "ascending" "ascending" (defArgs (Sm.topS 1)) (defBody (Sm.topS 1)) (defScope (Sm.topS 1)) .none kV1 dc1 pm1 an1 cd1 ct1), sl1⟩) (c1 : PySem.W.codeIn K cd1 "ascending" = true) (k1 : PySem.W.keepIn K (.ref f1) = true)
    (a5 : PySem.W.nsIn K mainGlobals "islands_in" = some (some (.ref f5))) (l5 : K.lookup f5 = some ⟨oc5, od5, .func (PySem.W.fnOf "islands_in" "islands_in" (defArgs (Sm.topS 5)) (defBody (Sm.topS 5)) (defScope (Sm.topS 5)) .none kV5 dc5 pm5 an5 cd5 ct5), sl5⟩) (c5 : PySem.W.codeIn K cd5 "islands_in" = true) (k5 : PySem.W.keepIn K (.ref f5) = true)
    (a6 : PySem.W.nsIn K mainGlobals "check_numbers" = some (some (.ref f6))) (l6 : K.lookup f6 = some ⟨oc6, od6, .func (PySem.W.fnOf "check_numbers" "check_numbers" (defArgs (Sm.topS 6)) (defBody (Sm.topS 6)) (defScope (Sm.topS 6)) .none kV6 dc6 pm6 an6 cd6 ct6), sl6⟩) (c6 : PySem.W.codeIn K cd6 "check_numbers" = true) (k6 : PySem.W.keepIn K (.ref f6) = true)
    (a7 : PySem.W.nsIn K mainGlobals "runs" = some (some (.ref f7))) (l7 : K.lookup f7 = some ⟨oc7, od7, .func (PySem.W.fnOf "runs" "runs" (defArgs (Sm.topS 7)) (defBody (Sm.topS 7)) (defScope (Sm.topS 7)) .none kV7 dc7 pm7 an7 cd7 ct7), sl7⟩) (c7 : PySem.W.codeIn K cd7 "runs" = true) (k7 : PySem.W.keepIn K (.ref f7) = true)
    (a8 : PySem.W.nsIn K mainGlobals "last_height" = some (some (.ref f8))) (l8 : K.lookup f8 = some ⟨oc8, od8, .func (PySem.W.fnOf "last_height" "last_height" (defArgs (Sm.topS 8)) (defBody (Sm.topS 8)) (defScope (Sm.topS 8)) .none kV8 dc8 pm8 an8 cd8 ct8), sl8⟩) (c8 : PySem.W.codeIn K cd8 "last_height" = true) (k8 : PySem.W.keepIn K (.ref f8) = true)
    (a9 : PySem.W.nsIn K mainGlobals "lots_at" = some (some (.ref f9))) (l9 : K.lookup f9 = some ⟨oc9, od9, .func (PySem.W.fnOf "lots_at" "lots_at" (defArgs (Sm.topS 9)) (defBody (Sm.topS 9)) (defScope (Sm.topS 9)) .none kV9 dc9 pm9 an9 cd9 ct9), sl9⟩) (c9 : PySem.W.codeIn K cd9 "lots_at" = true) (k9 : PySem.W.keepIn K (.ref f9) = true)
    (a10 : PySem.W.nsIn K mainGlobals "lot_at" = some (some (.ref f10))) (l10 : K.lookup f10 = some ⟨oc10, od10, .func (PySem.W.fnOf "lot_at" "lot_at" (defArgs (Sm.topS 10)) (defBody (Sm.topS 10)) (defScope (Sm.topS 10)) .none kV10 dc10 pm10 an10 cd10 ct10), sl10⟩) (c10 : PySem.W.codeIn K cd10 "lot_at" = true) (k10 : PySem.W.keepIn K (.ref f10) = true)
    (a11 : PySem.W.nsIn K mainGlobals "great_lots" = some (some (.ref f11))) (l11 : K.lookup f11 = some ⟨oc11, od11, .func (PySem.W.fnOf "great_lots" "great_lots" (defArgs (Sm.topS 11)) (defBody (Sm.topS 11)) (defScope (Sm.topS 11)) .none kV11 dc11 pm11 an11 cd11 ct11), sl11⟩) (c11 : PySem.W.codeIn K cd11 "great_lots" = true) (k11 : PySem.W.keepIn K (.ref f11) = true)
    (a12 : PySem.W.nsIn K mainGlobals "greatest_lot" = some (some (.ref f12))) (l12 : K.lookup f12 = some ⟨oc12, od12, .func (PySem.W.fnOf "greatest_lot" "greatest_lot" (defArgs (Sm.topS 12)) (defBody (Sm.topS 12)) (defScope (Sm.topS 12)) .none kV12 dc12 pm12 an12 cd12 ct12), sl12⟩) (c12 : PySem.W.codeIn K cd12 "greatest_lot" = true) (k12 : PySem.W.keepIn K (.ref f12) = true)
    (a13 : PySem.W.nsIn K mainGlobals "how_many_joined" = some (some (.ref f13))) (l13 : K.lookup f13 = some ⟨oc13, od13, .func (PySem.W.fnOf "how_many_joined" "how_many_joined" (defArgs (Sm.topS 13)) (defBody (Sm.topS 13)) (defScope (Sm.topS 13)) .none kV13 dc13 pm13 an13 cd13 ct13), sl13⟩) (c13 : PySem.W.codeIn K cd13 "how_many_joined" = true) (k13 : PySem.W.keepIn K (.ref f13) = true)
    (a14 : PySem.W.nsIn K mainGlobals "waters_of" = some (some (.ref f14))) (l14 : K.lookup f14 = some ⟨oc14, od14, .func (PySem.W.fnOf "waters_of" "waters_of" (defArgs (Sm.topS 14)) (defBody (Sm.topS 14)) (defScope (Sm.topS 14)) .none kV14 dc14 pm14 an14 cd14 ct14), sl14⟩) (c14 : PySem.W.codeIn K cd14 "waters_of" = true) (k14 : PySem.W.keepIn K (.ref f14) = true)
    (a16 : PySem.W.nsIn K mainGlobals "_law_box" = some (some (.ref f16))) (l16 : K.lookup f16 = some ⟨oc16, od16, .func (PySem.W.fnOf "_law_box" "_law_box" (defArgs (Sm.topS 16)) (defBody (Sm.topS 16)) (defScope (Sm.topS 16)) .none kV16 dc16 pm16 an16 cd16 ct16), sl16⟩) (c16 : PySem.W.codeIn K cd16 "_law_box" = true) (k16 : PySem.W.keepIn K (.ref f16) = true)
    (a17 : PySem.W.nsIn K mainGlobals "_law_take" = some (some (.ref f17))) (l17 : K.lookup f17 = some ⟨oc17, od17, .func (PySem.W.fnOf "_law_take" "_law_take" (defArgs (Sm.topS 17)) (defBody (Sm.topS 17)) (defScope (Sm.topS 17)) .none kV17 dc17 pm17 an17 cd17 ct17), sl17⟩) (c17 : PySem.W.codeIn K cd17 "_law_take" = true) (k17 : PySem.W.keepIn K (.ref f17) = true)
    (a18 : PySem.W.nsIn K mainGlobals "_law_cells" = some (some (.ref f18))) (l18 : K.lookup f18 = some ⟨oc18, od18, .func (PySem.W.fnOf "_law_cells" "_law_cells" (defArgs (Sm.topS 18)) (defBody (Sm.topS 18)) (defScope (Sm.topS 18)) .none kV18 dc18 pm18 an18 cd18 ct18), sl18⟩) (c18 : PySem.W.codeIn K cd18 "_law_cells" = true) (k18 : PySem.W.keepIn K (.ref f18) = true)
    (a19 : PySem.W.nsIn K mainGlobals "_law_of" = some (some (.ref f19))) (l19 : K.lookup f19 = some ⟨oc19, od19, .func (PySem.W.fnOf "_law_of" "_law_of" (defArgs (Sm.topS 19)) (defBody (Sm.topS 19)) (defScope (Sm.topS 19)) .none kV19 dc19 pm19 an19 cd19 ct19), sl19⟩) (c19 : PySem.W.codeIn K cd19 "_law_of" = true) (k19 : PySem.W.keepIn K (.ref f19) = true)
    (a20 : PySem.W.nsIn K mainGlobals "_law_same" = some (some (.ref f20))) (l20 : K.lookup f20 = some ⟨oc20, od20, .func (PySem.W.fnOf "_law_same" "_law_same" (defArgs (Sm.topS 20)) (defBody (Sm.topS 20)) (defScope (Sm.topS 20)) .none kV20 dc20 pm20 an20 cd20 ct20), sl20⟩) (c20 : PySem.W.codeIn K cd20 "_law_same" = true) (k20 : PySem.W.keepIn K (.ref f20) = true)
    (a21 : PySem.W.nsIn K mainGlobals "_law_row" = some (some (.ref f21))) (l21 : K.lookup f21 = some ⟨oc21, od21, .func (PySem.W.fnOf "_law_row" "_law_row" (defArgs (Sm.topS 21)) (defBody (Sm.topS 21)) (defScope (Sm.topS 21)) .none kV21 dc21 pm21 an21 cd21 ct21), sl21⟩) (c21 : PySem.W.codeIn K cd21 "_law_row" = true) (k21 : PySem.W.keepIn K (.ref f21) = true)
    (a22 : PySem.W.nsIn K mainGlobals "_law_by_hand_right" = some (some (.ref f22))) (l22 : K.lookup f22 = some ⟨oc22, od22, .func (PySem.W.fnOf "_law_by_hand_right" "_law_by_hand_right" (defArgs (Sm.topS 22)) (defBody (Sm.topS 22)) (defScope (Sm.topS 22)) .none kV22 dc22 pm22 an22 cd22 ct22), sl22⟩) (c22 : PySem.W.codeIn K cd22 "_law_by_hand_right" = true) (k22 : PySem.W.keepIn K (.ref f22) = true)
    (a23 : PySem.W.nsIn K mainGlobals "_law_right" = some (some (.ref f23))) (l23 : K.lookup f23 = some ⟨oc23, od23, .func (PySem.W.fnOf "_law_right" "_law_right" (defArgs (Sm.topS 23)) (defBody (Sm.topS 23)) (defScope (Sm.topS 23)) .none kV23 dc23 pm23 an23 cd23 ct23), sl23⟩) (c23 : PySem.W.codeIn K cd23 "_law_right" = true) (k23 : PySem.W.keepIn K (.ref f23) = true)
    (a24 : PySem.W.nsIn K mainGlobals "law" = some (some (.ref f24))) (l24 : K.lookup f24 = some ⟨oc24, od24, .func (PySem.W.fnOf "law" "law" (defArgs (Sm.topS 24)) (defBody (Sm.topS 24)) (defScope (Sm.topS 24)) .none kV24 dc24 pm24 an24 cd24 ct24), sl24⟩) (c24 : PySem.W.codeIn K cd24 "law" = true) (k24 : PySem.W.keepIn K (.ref f24) = true)
    (z0 : PySem.W.nsIn K mainGlobals "all" = some none)
    (z1 : PySem.W.nsIn K mainGlobals "bool" = some none)
    (z2 : PySem.W.nsIn K mainGlobals "int" = some none)
    (z3 : PySem.W.nsIn K mainGlobals "isinstance" = some none)
    (z4 : PySem.W.nsIn K mainGlobals "len" = some none)
    (z5 : PySem.W.nsIn K mainGlobals "list" = some none)
    (z6 : PySem.W.nsIn K mainGlobals "max" = some none)
    (z7 : PySem.W.nsIn K mainGlobals "min" = some none)
    (z8 : PySem.W.nsIn K mainGlobals "range" = some none)
    (z9 : PySem.W.nsIn K mainGlobals "set" = some none)
    (z10 : PySem.W.nsIn K mainGlobals "sorted" = some none)
    (z11 : PySem.W.nsIn K mainGlobals "str" = some none)
    (z12 : PySem.W.nsIn K mainGlobals "sum" = some none)
    (z13 : PySem.W.nsIn K mainGlobals "tuple" = some none)
    (z14 : PySem.W.nsIn K mainGlobals "zip" = some none)
    (z15 : PySem.W.nsIn K mainGlobals "abs" = some none)
    (z16 : PySem.W.nsIn K mainGlobals "enumerate" = some none)
    : ∃ fd : FuncData, (∀ (s : Shared) (v : Value), BindsTo s fd ⟨[v], []⟩ [("_law_script", v)]) ∧ ∀ base : Heap, K.In base → base.Ns mainGlobals mg → FnOk l.prog w K mg base (L2.CX l.prog w) 12 fa fd ["_law_script"] (spLaw K) := by
  have e := hfa.symm.trans (PySem.W.mg_of X G a24)
  cases e
  have F24 := fun_mk (st := Sm.topS 24) l24 c24 k24
  have B : Sm.Bn mg := ⟨PySem.W.mg_none_of X G z0, PySem.W.mg_none_of X G z1, PySem.W.mg_none_of X G z2, PySem.W.mg_none_of X G z3, PySem.W.mg_none_of X G z4, PySem.W.mg_none_of X G z5, PySem.W.mg_none_of X G z6, PySem.W.mg_none_of X G z7, PySem.W.mg_none_of X G z8, PySem.W.mg_none_of X G z9, PySem.W.mg_none_of X G z10, PySem.W.mg_none_of X G z11, PySem.W.mg_none_of X G z12, PySem.W.mg_none_of X G z13, PySem.W.mg_none_of X G z14⟩
  refine ⟨PySem.W.fnOf "law" "law" (defArgs (Sm.topS 24)) (defBody (Sm.topS 24)) (defScope (Sm.topS 24)) .none kV24 dc24 pm24 an24 cd24 ct24, fun s v => .of_eq rfl, fun base _ _ => ?_⟩
  exact all_ok B (PySem.W.mg_none_of X G z15) (PySem.W.mg_none_of X G z16) (def_mk X G a1 l1 c1 k1) (def_mk X G a5 l5 c5 k5) (def_mk X G a6 l6 c6 k6) (def_mk X G a7 l7 c7 k7) (def_mk X G a8 l8 c8 k8) (def_mk X G a9 l9 c9 k9) (def_mk X G a10 l10 c10 k10) (def_mk X G a11 l11 c11 k11) (def_mk X G a12 l12 c12 k12) (def_mk X G a13 l13 c13 k13) (def_mk X G a14 l14 c14 k14) (def_mk X G a17 l17 c17 k17) (def_mk X G a19 l19 c19 k19) (def_mk X G a20 l20 c20 k20) (def_mk X G a21 l21 c21 k21) (def_mk X G a22 l22 c22 k22) (def_mk X G a23 l23 c23 k23) (def_mk X G a16 l16 c16 k16) (def_mk X G a18 l18 c18 k18) F24
theorem walk {l : PySem.W.OpenLaw} {q : Program} {loose : List Str} {XP : (Str → Option Value) → Heap → Prop} {YP : World → Heap → Prop} {d : DefRec} {K : Params → PySem.W.Frag} (hn : l.most = some 63) (hdf : d.params.defaults = [])
    (hY : ∀ (w : World) (h : Heap), YP w h → (K w.params).In h)
    (F : ∀ (w : World) (mg : Str → Option Value) (fa : Addr) (h : Heap), (K w.params).In h → h.Ns mainGlobals mg → mg d.name = some (.ref fa) →
      ∃ fd : FuncData, (∀ (s : Shared) (u : Value), BindsTo s fd ⟨[u], []⟩ [("_law_script", u)]) ∧ ∀ base : Heap, (K w.params).In base → base.Ns mainGlobals mg → FnOk l.prog w (K w.params) mg base (L2.CX l.prog w) 12 fa fd ["_law_script"] (spLaw (K w.params))) :
    PySem.W.WalkO q loose XP YP l.row.toRowW d [] (fun f vs => PySem.call f vs) :=
  L2.walk_of (n := 63) (k := 12) (x := "_law_script") (CX := fun w => L2.CX l.prog w) (sp := fun w => spLaw (K w.params)) hn (by decide) hdf ⟨rfl, by decide, by decide⟩ hY F (fun _ _ a ns hl _ hS => ⟨a, ns, rfl, hS, hl, fun _ => rfl⟩) fun _ _ _ _ _ ⟨_, _, _, _, _, _, _, _, _, _, _, _, z⟩ => z
end Lf
open PySem PySem.W PyProof.Rows
set_option maxRecDepth 100000 in
set_option maxHeartbeats 0 in
theorem PySem.Challenge.cw_lastfords_k98_whole_great_rows_one_behin_holds : PySem.Challenge.rw_lastfords_k98_whole_great_rows_one_behin.Holds := by
  w_on; o_law; k_head; (case hw => w_witness2)
  k_fill
  refine Lf.walk (l := PySem.Challenge.rw_lastfords_k98_whole_great_rows_one_behin) rfl rfl (fun w h Y => PySem.W.kIn_of Y) ?F
  case F =>
    intro w mg fa h KX G hmg
    refine' Lf.all_mk KX G hmg ?a1 ?l1 ?c1 ?k1 ?a5 ?l5 ?c5 ?k5 ?a6 ?l6 ?c6 ?k6 ?a7 ?l7 ?c7 ?k7 ?a8 ?l8 ?c8 ?k8 ?a9 ?l9 ?c9 ?k9 ?a10 ?l10 ?c10 ?k10 ?a11 ?l11 ?c11 ?k11 ?a12 ?l12 ?c12 ?k12 ?a13 ?l13 ?c13 ?k13 ?a14 ?l14 ?c14 ?k14 ?a16 ?l16 ?c16 ?k16 ?a17 ?l17 ?c17 ?k17 ?a18 ?l18 ?c18 ?k18 ?a19 ?l19 ?c19 ?k19 ?a20 ?l20 ?c20 ?k20 ?a21 ?l21 ?c21 ?k21 ?a22 ?l22 ?c22 ?k22 ?a23 ?l23 ?c23 ?k23 ?a24 ?l24 ?c24 ?k24 ?z0 ?z1 ?z2 ?z3 ?z4 ?z5 ?z6 ?z7 ?z8 ?z9 ?z10 ?z11 ?z12 ?z13 ?z14 ?z15 ?z16
    (case a1 => k_is); (case l1 => k_is); (case c1 => k_is); (case k1 => k_is)
    (case a5 => k_is); (case l5 => k_is); (case c5 => k_is); (case k5 => k_is)
    (case a6 => k_is); (case l6 => k_is); (case c6 => k_is); (case k6 => k_is)
    (case a7 => k_is); (case l7 => k_is); (case c7 => k_is); (case k7 => k_is)
    (case a8 => k_is); (case l8 => k_is); (case c8 => k_is); (case k8 => k_is)
    (case a9 => k_is); (case l9 => k_is); (case c9 => k_is); (case k9 => k_is)
    (case a10 => k_is); (case l10 => k_is); (case c10 => k_is); (case k10 => k_is)
    (case a11 => k_is); (case l11 => k_is); (case c11 => k_is); (case k11 => k_is)
    (case a12 => k_is); (case l12 => k_is); (case c12 => k_is); (case k12 => k_is)
    (case a13 => k_is); (case l13 => k_is); (case c13 => k_is); (case k13 => k_is)
    (case a14 => k_is); (case l14 => k_is); (case c14 => k_is); (case k14 => k_is)
    (case a16 => k_is); (case l16 => k_is); (case c16 => k_is); (case k16 => k_is)
    (case a17 => k_is); (case l17 => k_is); (case c17 => k_is); (case k17 => k_is)
    (case a18 => k_is); (case l18 => k_is); (case c18 => k_is); (case k18 => k_is)
    (case a19 => k_is); (case l19 => k_is); (case c19 => k_is); (case k19 => k_is)
    (case a20 => k_is); (case l20 => k_is); (case c20 => k_is); (case k20 => k_is)
    (case a21 => k_is); (case l21 => k_is); (case c21 => k_is); (case k21 => k_is)
    (case a22 => k_is); (case l22 => k_is); (case c22 => k_is); (case k22 => k_is)
    (case a23 => k_is); (case l23 => k_is); (case c23 => k_is); (case k23 => k_is)
    (case a24 => k_is); (case l24 => k_is); (case c24 => k_is); (case k24 => k_is)
    (case z0 => k_is); (case z1 => k_is); (case z2 => k_is); (case z3 => k_is); (case z4 => k_is); (case z5 => k_is); (case z6 => k_is); (case z7 => k_is); (case z8 => k_is); (case z9 => k_is); (case z10 => k_is); (case z11 => k_is); (case z12 => k_is); (case z13 => k_is); (case z14 => k_is); (case z15 => k_is); (case z16 => k_is)
